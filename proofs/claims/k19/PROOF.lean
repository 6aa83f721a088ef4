import PyProof.Rows.All
import Wide.All
import OpenK.AllK
import Wide.FinOn
import HandS.ForMost
import HandS.Evl
import HandS.TupAny
import HandS.TupMul
import HandS.IsInst
import HandS.Zip
import HandS.Deep
import HandS.Style
import HandS.Strs
import HandS.More
import HandS.Exc
import HandS.ExcInit
import HandS.ExcOwn
import HandS.ExcField
import HandS.WordsExc
import HandS.Dict
import HandS.Walk
import HandS.DictComp
import HandS.TryOnly
import HandS.Comp
import KE.GoesComp
import KE.KAsSuite
import KE.SortData
import HandS.Iter
import HandS.TupLen
import HandS.TupSets
import KE.KeyNested
import HandS.Text
import HandS.StrMore
import HandS.ClsMeth
import HandS.FStr
import KE.KxIndex
import PySem.Challenge.RW_rightskept_k19_texts
set_option Elab.async false
set_option linter.all false
section
open PySem PySem.W PyProof.Rows
set_option maxRecDepth 100000 in
set_option maxHeartbeats 0 in
open_top head_top for PySem.Challenge.rw_rightskept_k19_texts
end
set_option Elab.async false
set_option linter.all false
set_option maxRecDepth 100000
set_option maxHeartbeats 4000000
namespace Ver
open PySem L2 Evl
/-- a new list, a new tuple -/
def NewL (xs : List V) (H : Hp) (Q : VK) : Prop := xs.length ≤ sizeLine ∧ ∀ p, H p = none → Q (.ref p) (upd H p (.lst xs))
def NewU (xs : List V) (H : Hp) (Q : VK) : Prop := xs.length ≤ sizeLine ∧ ∀ p, H p = none → Q (.ref p) (upd H p (.tup xs))
section
variable {K : PySem.W.Frag} {σ : L2.St} {H H' H1 : Hp} {ta tb te : TE} {t u c : TT} {ts us : TS} {x y z v : V} {r : R2} {D : Ends} {g : TG} {Q : VK} {i j : Nat}
theorem w_seq (h : ts { D with nx := us D } σ H) : tSeq ts us D σ H := h
theorem w_next (h : D.nx σ H) : tNext D σ H := h
theorem w_asg (h : te σ H fun a Ha => g a σ Ha D.nx) : tAsg te g D σ H := h
theorem w_name {N : L2.St → Hp → Prop} (h : N (σ.set i (some v)) H) : gName i v σ H N := h
theorem w_if (h : c σ H fun k Hk => if k = true then ts D σ Hk else us D σ Hk) : tIfS c ts us D σ H := h
theorem w_ret (h : te σ H D.rt) : tRet te D σ H := h
theorem w_drop (h : te σ H fun _ Ha => D.nx σ Ha) : tDrop te D σ H := h
theorem w_brk (h : D.bk σ H) : tBreak D σ H := h
theorem w_cont (h : D.ct σ H) : tCont D σ H := h
theorem w_var (e : σ[i]? = some (some v)) (h : Q v H) : tVar i σ H Q := ⟨v, e, h⟩
theorem w_c (h : Q v H) : tC v σ H Q := h
theorem w_op (h : ta σ H fun a Ha => tb σ Ha fun b Hb => r a b Hb Q) : tOp r ta tb σ H Q := h
theorem w_un {f : V → Hp → VK → Prop} (h : ta σ H fun a Ha => f a Ha Q) : tUn f ta σ H Q := h
theorem w_I0 {f : Int → Int → V} {a b : Int} (h : Q (f a b) H) : rI0 f (.int a) (.int b) H Q := ⟨a, b, rfl, rfl, h⟩
theorem w_I {C : Int → Int → Prop} {f : Int → Int → V} {a b : Int} (hc : C a b) (h : Q (f a b) H) : rI C f (.int a) (.int b) H Q := ⟨a, b, rfl, rfl, hc, h⟩
theorem w_neg {a : Int} (h : Q (.int (-a)) H) : rU (fun n => .int (-n)) (.int a) H Q := ⟨a, rfl, h⟩
theorem w_ne (e : scal x y = true) (h : Q (.bl (!decide (x = y))) H) : rNe x y H Q := ⟨e, h⟩
theorem w_eqI {a b : Int} (h : Q (.bl (decide (a = b))) H) : rEq (.int a) (.int b) H Q := ⟨rfl, by
  have e : decide (V.int a = V.int b) = decide (a = b) := by
    by_cases q : a = b
    · rw [q]; simp
    · rw [decide_eq_false q, decide_eq_false (fun z => q (V.int.inj z))]
  rw [e]; exact h⟩
theorem w_neI {a b : Int} (h : Q (.bl (!decide (a = b))) H) : rNe (.int a) (.int b) H Q := ⟨rfl, by
  have e : decide (V.int a = V.int b) = decide (a = b) := by
    by_cases q : a = b
    · rw [q]; simp
    · rw [decide_eq_false q, decide_eq_false (fun z => q (V.int.inj z))]
  rw [e]; exact h⟩
theorem w_eqS {a b : Str} (h : Q (.bl (decide (a = b))) H) : rEq (.str a) (.str b) H Q := ⟨rfl, by
  have e : decide (V.str a = V.str b) = decide (a = b) := by
    by_cases q : a = b
    · rw [q]; simp
    · rw [decide_eq_false q, decide_eq_false (fun z => q (V.str.inj z))]
  rw [e]; exact h⟩
theorem w_neS {a b : Str} (h : Q (.bl (!decide (a = b))) H) : rNe (.str a) (.str b) H Q := ⟨rfl, by
  have e : decide (V.str a = V.str b) = decide (a = b) := by
    by_cases q : a = b
    · rw [q]; simp
    · rw [decide_eq_false q, decide_eq_false (fun z => q (V.str.inj z))]
  rw [e]; exact h⟩
theorem w_eqB {a b : Bool} (h : Q (.bl (a == b)) H) : rEq (.bl a) (.bl b) H Q := ⟨rfl, by
  have e : decide (V.bl a = V.bl b) = (a == b) := by cases a <;> cases b <;> rfl
  rw [e]; exact h⟩
theorem w_neB {a b : Bool} (h : Q (.bl (a != b)) H) : rNe (.bl a) (.bl b) H Q := ⟨rfl, by
  have e : (!decide (V.bl a = V.bl b)) = (a != b) := by cases a <;> cases b <;> rfl
  rw [e]; exact h⟩
theorem w_test {N : Bool → Hp → Prop} (h : te σ H fun a Ha => ∃ k, a = .bl k ∧ N k Ha) : tTest te σ H N := h
theorem w_B {N : Bool → Hp → Prop} (h : te σ H fun a Ha => ∃ k, a = .bl k ∧ N k Ha) : tB te σ H N := h
theorem w_and {N : Bool → Hp → Prop} (h : t σ H fun k Hk => if k = true then u σ Hk N else N false Hk) : tAnd t u σ H N := h
theorem w_or {N : Bool → Hp → Prop} (h : t σ H fun k Hk => if k = true then N true Hk else u σ Hk N) : tOr t u σ H N := h
theorem w_not {N : Bool → Hp → Prop} (h : t σ H fun k Hk => N (!k) Hk) : tNot t σ H N := h
theorem w_andV (h : ta σ H fun a Ha => ∃ k, a = .bl k ∧ if k = true then tb σ Ha Q else Q (.bl false) Ha) : tAndV ta tb σ H Q := h
theorem w_orV (h : ta σ H fun a Ha => ∃ k, a = .bl k ∧ if k = true then Q (.bl true) Ha else tb σ Ha Q) : tOrV ta tb σ H Q := h
theorem w_notV (h : ta σ H fun a Ha => ∃ k, a = .bl k ∧ Q (.bl (!k)) Ha) : tNotV ta σ H Q := h
theorem w_ifE (h : c σ H fun k Hk => if k = true then ta σ Hk Q else tb σ Hk Q) : tIf c ta tb σ H Q := h
theorem w_yes {N : Bool → Hp → Prop} (h : N true H) : tYes σ H N := h
theorem w_nil {N : List V → Hp → Prop} (h : N [] H) : tNil σ H N := h
theorem w_cons {tr : TA} {N : List V → Hp → Prop} (h : ta σ H fun a Ha => tr σ Ha fun xs Hb => N (a :: xs) Hb) : tCons ta tr σ H N := h
theorem w_CB {f : List V → Hp → VK → Prop} {a : TA} (h : a σ H fun vs Ha => f vs Ha Q) : tCB f a σ H Q := h
theorem w_callN {sp : Sp} {E : XK} {a : TA} (h : a σ H fun vs Ha => sp vs Ha Q E) : tCall sp [] E a σ H Q := by
  have e : (fun (vs : List V) Ha => sp (vs ++ []) Ha Q E) = fun vs Ha => sp vs Ha Q E := by
    funext vs Ha
    rw [List.append_nil]
  show a σ H fun vs Ha => sp (vs ++ []) Ha Q E
  rw [e]
  exact h
theorem w_BM {T : String} {f : V → List V → Hp → VK → Prop} {a : TA} (h : te σ H fun x Ha => tyV K T x Ha ∧ a σ Ha fun xs Hb => f x xs Hb Q) : tBM K T f te a σ H Q := h
theorem w_BM0 {T : String} {f : V → List V → Hp → VK → Prop} (h : te σ H fun x Ha => tyV K T x Ha ∧ f x [] Ha Q) : tBM0 K T f te σ H Q := h
theorem w_noPart {N : Option Int → Hp → Prop} (h : N none H) : tNoPart σ H N := h
theorem w_part {N : Option Int → Hp → Prop} (h : te σ H fun a Ha => ∃ k, a = .int k ∧ N (some k) Ha) : tPart te σ H N := h
theorem w_sl {f : V → Option Int → Option Int → Hp → VK → Prop} {tl th : TO} (h : te σ H fun a Ha => tl σ Ha fun l Hb => th σ Hb fun m Hc => f a l m Hc Q) : tSl f te tl th σ H Q := h
theorem w_tup {a : TA} (h : a σ H fun xs Ha => NewU xs Ha Q) : tTup a σ H Q := h
theorem w_lst {a : TA} (h : a σ H fun xs Ha => NewL xs Ha Q) : tLst a σ H Q := h
theorem w_subG {to ti : TE} {f : TSet} {N : L2.St → Hp → Prop} (h : to σ H fun o Ha => ti σ Ha fun k Hb => f o k v Hb fun Hc => N σ Hc) : gSub to ti f v σ H N := h
theorem w_gtup {n : Nat} {gs : TGs} {N : L2.St → Hp → Prop} {p : Addr} {xs : List V} (hx : SqT K H p xs) (hn : xs.length = n) (h : gs xs σ H N) : gTup K n gs (.ref p) σ H N := ⟨p, xs, rfl, hx, hn, h⟩
theorem w_gcons {gs : TGs} {xs : List V} {N : L2.St → Hp → Prop} (h : g v σ H fun σ' Ha => gs xs σ' Ha N) : gCons g gs (v :: xs) σ H N := ⟨v, xs, rfl, h⟩
theorem w_gnil {N : L2.St → Hp → Prop} (h : N σ H) : gNil [] σ H N := ⟨rfl, h⟩
theorem iteNT {A B : Prop} (h : B) : if (!true) = true then A else B := h
theorem iteNF {A B : Prop} (h : A) : if (!false) = true then A else B := h
theorem w_chain {r' : R2} {tc : TE} (h : ta σ H fun a Ha => tb σ Ha fun b Hb => r a b Hb fun z Hc => ∃ k, z = .bl k ∧ (if k = true then tc σ Hc fun c Hd => r' b c Hd Q else Q (.bl false) Hc)) : tChain r r' ta tb tc σ H Q := h
def LoopG (J : It) (g : TG) (b : TS) (D : Ends) (σ : L2.St) (H : Hp) : Prop := tFor (fun _ h R => R J h) g b D σ H
def CompG (J : It) (g : TG) (t : TT) (e : TE) (vs : List Nat) (σ : L2.St) (H : Hp) (Q : VK) : Prop := tLc (fun _ h R => R J h) g t e vs σ H Q
theorem w_for {wi : TI} (h : wi σ H fun J Ha => LoopG J g ts D σ Ha) : tFor wi g ts D σ H := h
theorem w_lc {wi : TI} {vs : List Nat} (h : wi σ H fun J Ha => CompG J g t te vs σ Ha Q) : tLc wi g t te vs σ H Q := h
theorem w_iR1 {a : TA} {R : It → Hp → Prop} (h : a σ H fun vs Ha => ∃ k : Int, vs = [.int k] ∧ -(2 ^ 62) ≤ k ∧ k < 2 ^ 62 ∧ R (Itr 0 k.toNat) Ha) : iRng1 a σ H R := h
theorem w_iR2 {a : TA} {R : It → Hp → Prop} (h : a σ H fun vs Ha => ∃ k l : Int, vs = [.int k, .int l] ∧ (-(2 ^ 62) ≤ k ∧ k < 2 ^ 62 ∧ -(2 ^ 62) ≤ l ∧ l < 2 ^ 62) ∧ R (Itr k (l - k).toNat) Ha) : iRng2 a σ H R := h
theorem w_iL {R : It → Hp → Prop} (h : te σ H fun a Ha => ∃ p, a = .ref p ∧ (∃ xs, SqL K Ha p xs) ∧ R (Itl K p) Ha) : iList K te σ H R := h
theorem w_iT {R : It → Hp → Prop} (h : te σ H fun a Ha => ∃ p, a = .ref p ∧ (∃ xs, SqT K Ha p xs) ∧ R (Itt K p) Ha) : iTup K te σ H R := h
theorem w_iS {R : It → Hp → Prop} (h : te σ H fun a Ha => ∃ s, a = .str s ∧ R (Its s) Ha) : iStr te σ H R := h
theorem r_R1 {k : Int} (hk : 0 ≤ k ∧ k ≤ 100000) (h : LoopG (Itr 0 k.toNat) g ts D σ H) : ∃ k' : Int, [V.int k] = [.int k'] ∧ -(2 ^ 62) ≤ k' ∧ k' < 2 ^ 62 ∧ LoopG (Itr 0 k'.toNat) g ts D σ H := ⟨k, rfl, by omega, by omega, h⟩
theorem c_R1 {k : Int} {vs : List Nat} (hk : 0 ≤ k ∧ k ≤ 100000) (h : CompG (Itr 0 k.toNat) g t te vs σ H Q) : ∃ k' : Int, [V.int k] = [.int k'] ∧ -(2 ^ 62) ≤ k' ∧ k' < 2 ^ 62 ∧ CompG (Itr 0 k'.toNat) g t te vs σ H Q := ⟨k, rfl, by omega, by omega, h⟩
theorem r_R2 {k l : Int} (hk : 0 ≤ k ∧ k ≤ 100000 ∧ -100000 ≤ l ∧ l ≤ 100000) (h : LoopG (Itr k (l - k).toNat) g ts D σ H) : ∃ k' l' : Int, [V.int k, V.int l] = [.int k', .int l'] ∧ (-(2 ^ 62) ≤ k' ∧ k' < 2 ^ 62 ∧ -(2 ^ 62) ≤ l' ∧ l' < 2 ^ 62) ∧ LoopG (Itr k' (l' - k').toNat) g ts D σ H := ⟨k, l, rfl, by omega, h⟩
theorem r_L {p : Addr} {xs : List V} (hx : SqL K H p xs) (h : LoopG (Itl K p) g ts D σ H) : ∃ q, V.ref p = .ref q ∧ (∃ xs, SqL K H q xs) ∧ LoopG (Itl K q) g ts D σ H := ⟨p, rfl, ⟨xs, hx⟩, h⟩
theorem c_L {p : Addr} {xs : List V} {vs : List Nat} (hx : SqL K H p xs) (h : CompG (Itl K p) g t te vs σ H Q) : ∃ q, V.ref p = .ref q ∧ (∃ xs, SqL K H q xs) ∧ CompG (Itl K q) g t te vs σ H Q := ⟨p, rfl, ⟨xs, hx⟩, h⟩
theorem c_T {p : Addr} {xs : List V} {vs : List Nat} (hx : SqT K H p xs) (h : CompG (Itt K p) g t te vs σ H Q) : ∃ q, V.ref p = .ref q ∧ (∃ xs, SqT K H q xs) ∧ CompG (Itt K q) g t te vs σ H Q := ⟨p, rfl, ⟨xs, hx⟩, h⟩
theorem r_S {s : Str} (h : LoopG (Its s) g ts D σ H) : ∃ s', V.str s = .str s' ∧ LoopG (Its s') g ts D σ H := ⟨s, rfl, h⟩
theorem c_S {s : Str} {vs : List Nat} (h : CompG (Its s) g t te vs σ H Q) : ∃ s', V.str s = .str s' ∧ CompG (Its s') g t te vs σ H Q := ⟨s, rfl, h⟩
theorem lp_range {n : Nat} {lo : Int} (P : Nat → L2.St → Hp → Prop) (h0 : P 0 σ H)
    (hs : ∀ k s h, k < n → P k s h → g (.int (lo + k)) s h fun s2 h2 => ts { D with nx := P (k + 1), ct := P (k + 1), bk := D.nx } s2 h2)
    (hd : ∀ s h, P n s h → D.nx s h) : LoopG (Itr lo n) g ts D σ H := for_range P h0 hs hd
theorem lp_list {p : Addr} {xs : List V} (P : Nat → L2.St → Hp → Prop) (h0 : P 0 σ H) (hl : ∀ k s h, k ≤ xs.length → P k s h → SqL K h p xs)
    (hs : ∀ k a s h, xs[k]? = some a → P k s h → g a s h fun s2 h2 => ts { D with nx := P (k + 1), ct := P (k + 1), bk := D.nx } s2 h2)
    (hd : ∀ s h, P xs.length s h → D.nx s h) : LoopG (Itl K p) g ts D σ H := for_list P h0 hl hs hd
theorem cp_range {n : Nat} {lo : Int} {vs : List Nat} (P : Addr → Nat → Hp → Prop) (h0 : ∀ p, H p = none → P p 0 (upd H p (.lst [])))
    (hs : ∀ p k h, H p = none → k < n → P p k h → g (.int (lo + k)) (wipe σ vs) h fun s2 h2 => wipe s2 vs = wipe σ vs ∧ t s2 h2 fun b h3 =>
      if b = true then te s2 h3 fun a h4 => ∃ acc, h4 p = some (.lst acc) ∧ acc.length < sizeLine ∧ P p (k + 1) (upd h4 p (.lst (acc ++ [a]))) else P p (k + 1) h3)
    (hd : ∀ p h, H p = none → P p n h → Q (.ref p) h) : CompG (Itr lo n) g t te vs σ H Q := fun p hp => lc_range (P p) (h0 p hp) (fun k h hk => hs p k h hp hk) (fun h => hd p h hp)
theorem cp_list {a : Addr} {xs : List V} {vs : List Nat} (P : Addr → Nat → Hp → Prop) (h0 : ∀ p, H p = none → P p 0 (upd H p (.lst []))) (hl : ∀ p k h, H p = none → k ≤ xs.length → P p k h → SqL K h a xs)
    (hs : ∀ p k x h, H p = none → xs[k]? = some x → P p k h → g x (wipe σ vs) h fun s2 h2 => wipe s2 vs = wipe σ vs ∧ t s2 h2 fun b h3 =>
      if b = true then te s2 h3 fun a h4 => ∃ acc, h4 p = some (.lst acc) ∧ acc.length < sizeLine ∧ P p (k + 1) (upd h4 p (.lst (acc ++ [a]))) else P p (k + 1) h3)
    (hd : ∀ p h, H p = none → P p xs.length h → Q (.ref p) h) : CompG (Itl K a) g t te vs σ H Q := fun p hp => lc_list (P p) (h0 p hp) (fun k h hk => hl p k h hp hk) (fun k x h hk => hs p k x h hp hk) (fun h => hd p h hp)
theorem cp_tup {a : Addr} {xs : List V} {vs : List Nat} (P : Addr → Nat → Hp → Prop) (h0 : ∀ p, H p = none → P p 0 (upd H p (.lst []))) (hl : ∀ p k h, H p = none → k ≤ xs.length → P p k h → SqT K h a xs)
    (hs : ∀ p k x h, H p = none → xs[k]? = some x → P p k h → g x (wipe σ vs) h fun s2 h2 => wipe s2 vs = wipe σ vs ∧ t s2 h2 fun b h3 =>
      if b = true then te s2 h3 fun a h4 => ∃ acc, h4 p = some (.lst acc) ∧ acc.length < sizeLine ∧ P p (k + 1) (upd h4 p (.lst (acc ++ [a]))) else P p (k + 1) h3)
    (hd : ∀ p h, H p = none → P p xs.length h → Q (.ref p) h) : CompG (Itt K a) g t te vs σ H Q := fun p hp => lc_tup (P p) (h0 p hp) (fun k h hk => hl p k h hp hk) (fun k x h hk => hs p k x h hp hk) (fun h => hd p h hp)
end
/-- all but S is kept -/
def Ks (S : List Addr) (H H' : Hp) : Prop := ∀ a o, a ∉ S → H a = some o → H' a = some o
theorem Ks.refl (S : List Addr) (H : Hp) : Ks S H H := fun _ _ _ h => h
theorem Ks.trans {S : List Addr} {H H1 H2 : Hp} (a : Ks S H H1) (b : Ks S H1 H2) : Ks S H H2 := fun x o n h => b x o n (a x o n h)
theorem Ks.of {S : List Addr} {H H' : Hp} (e : Ex H H') : Ks S H H' := fun a o _ h => e a o h
theorem Ks.upd {S : List Addr} {H H' : Hp} {p : Addr} {o : HO} (e : Ks S H H') (h : p ∈ S) : Ks S H (L2.upd H' p o) := fun a u n q => by
  rw [upd_ne (show a ≠ p from fun z => n (by rw [z]; exact h))]
  exact e a u n q
theorem Ks.mut {S : List Addr} {H H' : Hp} {p : Addr} {o : HO} (e : Ks S H H') (h : H p = none) : Ks S H (L2.upd H' p o) := fun a u n q => by
  rw [upd_ne (ne_of_none q h)]
  exact e a u n q
theorem Ks.drop {S : List Addr} {H H' : Hp} {p : Addr} (e : Ks (p :: S) H H') (h : H p = none) : Ks S H H' := fun a u n q =>
  e a u (fun z => (List.mem_cons.mp z).elim (ne_of_none q h) n) q
theorem Ks.mono {S S' : List Addr} {H H' : Hp} (e : Ks S H H') (h : ∀ a ∈ S, a ∈ S') : Ks S' H H' := fun a u n q => e a u (fun z => n (h a z)) q
theorem Ks.ex {H H' : Hp} (e : Ks [] H H') : Ex H H' := fun a u q => e a u (by simp) q
theorem ex_at {H H' : Hp} {a : Addr} {o : HO} (h : H a = some o) (e : Ex H H') : H' a = some o := e a o h
theorem ks_at {S : List Addr} {H H' : Hp} {a : Addr} {o : HO} (h : H a = some o) (e : Ks S H H') (n : a ∉ S) : H' a = some o := e a o n h
theorem ex_sl {K : PySem.W.Frag} {H H' : Hp} {a : Addr} {xs : List V} (h : SqL K H a xs) (e : Ex H H') : SqL K H' a xs := ex_l e h
theorem ex_st {K : PySem.W.Frag} {H H' : Hp} {a : Addr} {xs : List V} (h : SqT K H a xs) (e : Ex H H') : SqT K H' a xs := ex_t e h
theorem nin_nil {a : Addr} : a ∉ ([] : List Addr) := by simp
theorem nin_cons {a b : Addr} {S : List Addr} (h : a ≠ b) (k : a ∉ S) : a ∉ b :: S := fun z => (List.mem_cons.mp z).elim h k
theorem ne_old {H : Hp} {a p : Addr} {o : HO} (h : H a = some o) (n : H p = none) : a ≠ p := ne_of_none h n
/-- a new object -/
theorem new_lst {H : Hp} {xs : List V} {Q : VK} (hz : xs.length ≤ 100000) (k : ∀ p H1, H p = none → Ex H H1 → H1 p = some (.lst xs) → Q (.ref p) H1) :
    NewL xs H Q := ⟨sz_of hz, fun p n => k p _ n (Ex.new n) upd_same⟩
theorem new_tup {H : Hp} {xs : List V} {Q : VK} (hz : xs.length ≤ 100000) (k : ∀ p H1, H p = none → Ex H H1 → H1 p = some (.tup xs) → Q (.ref p) H1) :
    NewU xs H Q := ⟨sz_of hz, fun p n => k p _ n (Ex.new n) upd_same⟩
def qAbs : List V → Hp → VK → Prop := fun xs H Q => ∃ n, xs = [.int n] ∧ Q (.int (if n < 0 then -n else n)) H
def qInt : List V → Hp → VK → Prop := fun xs H Q => (∃ n, xs = [.int n] ∧ Q (.int n) H) ∨ ∃ k, xs = [.bl k] ∧ Q (.int (if k then 1 else 0)) H
def qLenS : List V → Hp → VK → Prop := fun xs H Q => ∃ s, xs = [.str s] ∧ s.length ≤ sizeLine ∧ Q (.int s.length) H
def qInS (neg : Bool) : R2 := fun x y H Q => ∃ i j, x = .str i ∧ y = .str j ∧ Q (.bl (if neg then (!(!(Builtin.Str.occurrences j i 0 j.length 1).isEmpty)) else (!(Builtin.Str.occurrences j i 0 j.length 1).isEmpty))) H
section
variable {X : Cx}
theorem k_abs : CallR X (.builtin "abs") qAbs := call_abs
theorem k_int : CallR X (.type "int") qInt := call_int1
theorem k_lst : CallR X (.type "list") (rListS X.K) := call_list_of
theorem k_len : CallR X (.builtin "len") (rLenS X.K) := call_len_seq
theorem k_lenS : CallR X (.builtin "len") qLenS := call_len_str
theorem k_inS : OpR X (compareOp .In) (qInS false) := op_in_str
theorem k_ninS : OpR X (compareOp .NotIn) (qInS true) := op_notin_str
end
section
variable {K : PySem.W.Frag} {H : Hp} {Q : VK} {p : Addr} {xs : List V}
theorem a_abs {n : Int} (k : Q (.int (if n < 0 then -n else n)) H) : qAbs [.int n] H Q := ⟨n, rfl, k⟩
theorem a_intI {n : Int} (k : Q (.int n) H) : qInt [.int n] H Q := .inl ⟨n, rfl, k⟩
theorem a_intB {b : Bool} (k : Q (.int (if b then 1 else 0)) H) : qInt [.bl b] H Q := .inr ⟨b, rfl, k⟩
theorem a_lstL (h : SqL K H p xs) (k : ∀ q H1, H q = none → Ex H H1 → H1 q = some (.lst xs) → Q (.ref q) H1) : rListS K [.ref p] H Q := ⟨p, xs, rfl, .inl h, fun q n => k q _ n (Ex.new n) upd_same⟩
theorem a_lenS {s : Str} (hz : s.length ≤ 100000) (k : Q (.int s.length) H) : qLenS [.str s] H Q := ⟨s, rfl, sz_of hz, k⟩
theorem a_inS {i j : Str} {b : Bool} (e : (!(Builtin.Str.occurrences j i 0 j.length 1).isEmpty) = b) (k : Q (.bl b) H) : qInS false (.str i) (.str j) H Q := ⟨i, j, rfl, rfl, by rw [e]; exact k⟩
theorem a_ninS {i j : Str} {b : Bool} (e : (!(Builtin.Str.occurrences j i 0 j.length 1).isEmpty) = b) (k : Q (.bl (!b)) H) : qInS true (.str i) (.str j) H Q := ⟨i, j, rfl, rfl, by rw [e]; exact k⟩
end
def qIsN : R2 := fun x y H Q => y = .non ∧ Q (.bl (decide (x = .non))) H
def qNotN : R2 := fun x y H Q => y = .non ∧ Q (.bl (!decide (x = .non))) H
def qIsTy : R2 := fun x y H Q => ∃ m n, x = .ty m ∧ y = .ty n ∧ Q (.bl (decide (m = n))) H
def qNotTy : R2 := fun x y H Q => ∃ m n, x = .ty m ∧ y = .ty n ∧ Q (.bl (!decide (m = n))) H
section
variable {X : Cx}
theorem k_isN : OpR X (compareOp .Is) qIsN := op_isN
theorem k_notN : OpR X (compareOp .IsNot) qNotN := op_notN
theorem k_isTy : OpR X (compareOp .Is) qIsTy := op_isTy
theorem k_notTy : OpR X (compareOp .IsNot) qNotTy := op_isNotTy
end
section
variable {H : Hp} {Q : VK}
theorem a_isNn (k : Q (.bl true) H) : qIsN .non .non H Q := ⟨rfl, k⟩
theorem a_isNr {p : Addr} (k : Q (.bl false) H) : qIsN (.ref p) .non H Q := ⟨rfl, k⟩
theorem a_notNn (k : Q (.bl false) H) : qNotN .non .non H Q := ⟨rfl, k⟩
theorem a_notNr {p : Addr} (k : Q (.bl true) H) : qNotN (.ref p) .non H Q := ⟨rfl, k⟩
theorem a_isTy {m n : String} (k : Q (.bl (decide (m = n))) H) : qIsTy (.ty m) (.ty n) H Q := ⟨m, n, rfl, rfl, k⟩
theorem a_notTy {m n : String} (k : Q (.bl (!decide (m = n))) H) : qNotTy (.ty m) (.ty n) H Q := ⟨m, n, rfl, rfl, k⟩
theorem a_isBl {m n : Bool} (k : Q (.bl (m == n)) H) : rIsB (.bl m) (.bl n) H Q := ⟨m, n, rfl, rfl, by
  have e : decide (m = n) = (m == n) := by cases m <;> cases n <;> rfl
  rw [e]; exact k⟩
theorem a_notBl {m n : Bool} (k : Q (.bl (m != n)) H) : rNotB (.bl m) (.bl n) H Q := ⟨m, n, rfl, rfl, by
  have e : (!decide (m = n)) = (m != n) := by cases m <;> cases n <;> rfl
  rw [e]; exact k⟩
theorem w_par {i j : Nat} {a : TA} {D : Ends} {σ : L2.St} (h : a σ H fun vs Ha => ∃ v w, vs = [v, w] ∧ D.nx ((σ.set i (some v)).set j (some w)) Ha) : tPar i j a D σ H := h
theorem a_cat {p q : Addr} {xs ys : List V} (h1 : H p = some (.lst xs)) (h2 : H q = some (.lst ys)) (hz : xs.length + ys.length ≤ 100000) (k : ∀ l H1, H l = none → Ex H H1 → H1 l = some (.lst (xs ++ ys)) → Q (.ref l) H1) : rCat (.ref p) (.ref q) H Q :=
  ⟨p, q, xs, ys, rfl, rfl, h1, h2, sz_of hz, fun l n => k l _ n (Ex.new n) upd_same⟩
end
section
variable (K : PySem.W.Frag) {X : Cx}
theorem plK {tg l : Expr} {tl : TE} (hl : PE X l tl) (h : X.K = K := by rfl) : PI X tg l (iList K tl) := by subst h; exact pi_list hl
theorem ptK {tg l : Expr} {tl : TE} (hl : PE X l tl) (h : X.K = K := by rfl) : PI X tg l (iTup K tl) := by subst h; exact pi_tup hl
theorem ixL (h : X.K = K := by rfl) : IxR X (rIxL K) := by subst h; exact ix_list
theorem ixT (h : X.K = K := by rfl) : IxR X (rIxT K) := by subst h; exact ix_tup
theorem slA (h : X.K = K := by rfl) : SlR X (rSlA K) := by subst h; exact sl_tupA
theorem lenK (h : X.K = K := by rfl) : CallR X (.builtin "len") (rLenS K) := by subst h; exact k_len
theorem inK (h : X.K = K := by rfl) : OpR X (compareOp .In) (rIn K false) := by subst h; exact op_in_seq
theorem ninK (h : X.K = K := by rfl) : OpR X (compareOp .NotIn) (rIn K true) := by subst h; exact op_notIn_seq
theorem lstK (h : X.K = K := by rfl) : CallR X (.type "list") (rListS K) := by subst h; exact k_lst
theorem catAK (h : X.K = K := by rfl) : OpR X (binaryOp .Add) (rCatA K) := by subst h; exact op_catA
theorem eqDK (hu : X.A.units + 64 < cLine) (h : X.K = K := by rfl) : OpR X (compareOp .Eq) (rEqD K) := by subst h; exact op_eqD hu
theorem neDK (hu : X.A.units + 64 < cLine) (h : X.K = K := by rfl) : OpR X (compareOp .NotEq) (rNeD K) := by subst h; exact op_neD hu
theorem inDK (hu : X.A.units + 65 < cLine) (h : X.K = K := by rfl) : OpR X (compareOp .In) (rInD K) := by subst h; exact op_inD hu
theorem allK (hc : X.calm = true := by rfl) (h : X.K = K := by rfl) : CallR X (.builtin "all") (rAll K) := by subst h; exact cr_all hc
theorem typK (h : X.K = K := by rfl) : CallR X (.type "type") (rTyp K) := by subst h; exact call_type1
theorem isiK (h : X.K = K := by rfl) : CallR X (.builtin "isinstance") (rIsi K) := by subst h; exact call_isi
end
theorem hd_of {A : Around} {k : Nat} (hr : Room k A) : A.units + 65 < cLine := by have := hr.un; omega
section
variable {K : PySem.W.Frag} {H : Hp} {Q : VK} {p q : Addr} {xs ys : List V} {v x : V} {n : Int}
theorem a_ixL (h : SqL K H p xs) (e : atI xs n = some v) (k : Q v H) : rIxL K (.ref p) (.int n) H Q := ⟨p, xs, n, v, rfl, rfl, h, e, k⟩
theorem a_ixT (h : SqT K H p xs) (e : atI xs n = some v) (k : Q v H) : rIxT K (.ref p) (.int n) H Q := ⟨p, xs, n, v, rfl, rfl, h, e, k⟩
theorem a_lenL (h : SqL K H p xs) (k : Q (.int xs.length) H) : rLenS K [.ref p] H Q := ⟨p, xs, rfl, .inl h, k⟩
theorem a_lenT (h : SqT K H p xs) (k : Q (.int xs.length) H) : rLenS K [.ref p] H Q := ⟨p, xs, rfl, .inr h, k⟩
theorem a_app (h : H p = some (.lst xs)) (hz : xs.length < 100000) (k : Q .non (upd H p (.lst (xs ++ [v])))) : rAppend (.ref p) [v] H Q := ⟨p, xs, v, rfl, rfl, h, sz_lt hz, k⟩
theorem a_ty (h : H p = some (.lst xs)) : tyV K "list" (.ref p) H := .inl ⟨rfl, xs, SqL.of h⟩
theorem a_setL {j : Nat} {N : Hp → Prop} (h : H p = some (.lst xs)) (hj : j < xs.length) (k : N (upd H p (.lst (xs.set j v)))) : rSetL (.ref p) (.int j) v H N := ⟨p, xs, j, j, rfl, rfl, h, ixN_nat hj, k⟩
theorem a_inT (h : SqT K H p xs) (hx : flatV x = true) (ha : xs.all flatV = true) (k : Q (.bl (inV x xs)) H) : rIn K false x (.ref p) H Q := ⟨p, xs, rfl, .inr h, hx, ha, k⟩
theorem a_ninT (h : SqT K H p xs) (hx : flatV x = true) (ha : xs.all flatV = true) (k : Q (.bl (!inV x xs)) H) : rIn K true x (.ref p) H Q := ⟨p, xs, rfl, .inr h, hx, ha, k⟩
end
def NewD (H : Hp) (Q : VK) : Prop := ∀ p, H p = none → Q (.ref p) (upd H p (.dK []))
theorem w_dK {σ : L2.St} {H : Hp} {Q : VK} (h : NewD H Q) : tDNewK σ H Q := h
theorem new_dK {H : Hp} {Q : VK} (k : ∀ p H1, H p = none → Ex H H1 → H1 p = some (.dK []) → Q (.ref p) H1) : NewD H Q := fun p n => k p _ n (Ex.new n) upd_same
def Bx (H : Hp) (b r : Addr) : Prop := ∃ (n : Nat) (ns : List Int), H b = some (.lst [.ref r, .int (n : Int)]) ∧ H r = some (.lst (ns.map V.int)) ∧ ns.length ≤ 100000
theorem bx_ex {H H' : Hp} {b r : Addr} (h : Bx H b r) (e : Ex H H') : Bx H' b r := by
  obtain ⟨n, ns, h1, h2, h3⟩ := h
  exact ⟨n, ns, e _ _ h1, e _ _ h2, h3⟩
theorem bx_ks {S : List Addr} {H H' : Hp} {b r : Addr} (h : Bx H b r) (e : Ks S H H') (nb : b ∉ S) (nr : r ∉ S) : Bx H' b r := by
  obtain ⟨n, ns, h1, h2, h3⟩ := h
  exact ⟨n, ns, e _ _ nb h1, e _ _ nr h2, h3⟩
theorem bx_nb {H : Hp} {b r p : Addr} (h : Bx H b r) (n : H p = none) : b ≠ p := by
  obtain ⟨_, _, h1, _⟩ := h
  exact ne_of_none h1 n
theorem bx_nr {H : Hp} {b r p : Addr} (h : Bx H b r) (n : H p = none) : r ≠ p := by
  obtain ⟨_, _, _, h2, _⟩ := h
  exact ne_of_none h2 n
theorem bx_rb {H : Hp} {b r : Addr} (h : Bx H b r) : r ≠ b := by
  obtain ⟨n, ns, h1, h2, _⟩ := h
  refine ne_of h2 h1 fun z => ?_
  cases ns with
  | nil => exact nomatch z
  | cons a as => exact nomatch z
theorem ks_st {K : PySem.W.Frag} {S : List Addr} {H H' : Hp} {a : Addr} {xs : List V} (h : SqT K H a xs) (e : Ks S H H') (n : a ∉ S) : SqT K H' a xs := by
  rcases h with (h | ⟨o, h⟩) | h
  · exact .inl (.inl (e _ _ n h))
  · exact .inl (.inr ⟨o, e _ _ n h⟩)
  · exact .inr h
theorem ks_sl {K : PySem.W.Frag} {S : List Addr} {H H' : Hp} {a : Addr} {xs : List V} (h : SqL K H a xs) (e : Ks S H H') (n : a ∉ S) : SqL K H' a xs := by
  rcases h with (h | ⟨o, h⟩) | h
  · exact .inl (.inl (e _ _ n h))
  · exact .inl (.inr ⟨o, e _ _ n h⟩)
  · exact .inr h
/-- a promise's two common ends -/
abbrev RV1 (v : V) (H : Hp) (Q : VK) : Prop := ∀ H2, Ex H H2 → Q v H2
end Ver
set_option Elab.async false
set_option linter.all false
set_option maxRecDepth 100000
set_option maxHeartbeats 4000000
namespace Ver
open PySem PySem.Spec PyProof.Rows L2 Evl
theorem us_0 {P : List Value → Prop} {us : List Value} (h : us.length = 0) (k : P []) : P us := by
  rw [List.eq_nil_of_length_eq_zero h]
  exact k
theorem us_c {n : Nat} {us : List Value} (h : us.length = n + 1) : ∃ a r, us = a :: r ∧ r.length = n := by
  cases us with
  | nil => cases h
  | cons a r => exact ⟨a, r, rfl, Nat.succ.inj h⟩
theorem us_1 {P : List Value → Prop} {us : List Value} (h : us.length = 1) (k : ∀ a, P [a]) : P us := by
  obtain ⟨a, r, rfl, hr⟩ := us_c h
  exact us_0 (P := fun r => P (a :: r)) hr (k a)
theorem us_2 {P : List Value → Prop} {us : List Value} (h : us.length = 2) (k : ∀ a b, P [a, b]) : P us := by
  obtain ⟨a, r, rfl, hr⟩ := us_c h
  exact us_1 (P := fun r => P (a :: r)) hr fun b => k a b
theorem us_3 {P : List Value → Prop} {us : List Value} (h : us.length = 3) (k : ∀ a b c, P [a, b, c]) : P us := by
  obtain ⟨a, r, rfl, hr⟩ := us_c h
  exact us_2 (P := fun r => P (a :: r)) hr fun b c => k a b c
theorem us_4 {P : List Value → Prop} {us : List Value} (h : us.length = 4) (k : ∀ a b c d, P [a, b, c, d]) : P us := by
  obtain ⟨a, r, rfl, hr⟩ := us_c h
  exact us_3 (P := fun r => P (a :: r)) hr fun b c d => k a b c d
theorem us_5 {P : List Value → Prop} {us : List Value} (h : us.length = 5) (k : ∀ a b c d e, P [a, b, c, d, e]) : P us := by
  obtain ⟨a, r, rfl, hr⟩ := us_c h
  exact us_4 (P := fun r => P (a :: r)) hr fun b c d e => k a b c d e
inductive R | rw | r | w | n
  deriving DecidableEq
def R.s : R → Str
  | .rw => "rw"
  | .r => "r"
  | .w => "w"
  | .n => "-"
def R.hr : R → Bool
  | .rw => true
  | .r => true
  | _ => false
def R.hw : R → Bool
  | .rw => true
  | .w => true
  | _ => false
def tv (xs : List R) : List V := xs.map fun x => .str x.s
theorem tv_len (xs : List R) : (tv xs).length = xs.length := List.length_map _
theorem tv_at {xs : List R} {i : Nat} {x : R} (h : xs[i]? = some x) : (tv xs)[i]? = some (.str x.s) := by
  unfold tv
  rw [List.getElem?_map, h]
  rfl
/-- each letter of a is one of b's -/
def wi (a b : R) : Bool := (!a.hr || b.hr) && (!a.hw || b.hw)
/-- converting, level by level, for equal lengths -/
def cw : List R → List R → Bool
  | a :: as, b :: bs => wi b a && (!b.hr || cw as bs) && (!b.hw || cw bs as)
  | _, _ => true
termination_by xs ys => xs.length + ys.length
def cv (xs ys : List R) : Bool := decide (xs.length = ys.length) && cw xs ys
instance decR {p : R → Prop} [∀ r, Decidable (p r)] : Decidable (∀ r, p r) :=
  if h : p .rw ∧ p .r ∧ p .w ∧ p .n then .isTrue fun r => by
    cases r
    · exact h.1
    · exact h.2.1
    · exact h.2.2.1
    · exact h.2.2.2
  else .isFalse fun k => h ⟨k _, k _, k _, k _⟩
/-- the plain form -/
def pl : List R → List R
  | [] => []
  | x :: xs => if x = .n then .n :: xs.map (fun _ => .n) else x :: pl xs
def ru (xs : List R) : PyData := .tuple (xs.map fun x => .str x.s)
theorem dp_all {K : PySem.W.Frag} {H : Hp} : ∀ xs : List R, DpAll K H (tv xs) (xs.map fun x => .str x.s)
  | [] => .nil
  | x :: xs => .cons (.str x.s) (dp_all xs)
theorem dp_ru {K : PySem.W.Frag} {H : Hp} {a : Addr} {xs : List R} (h : SqT K H a (tv xs)) : Dp K H (.ref a) (ru xs) := .tup h (dp_all xs)
theorem a_catA {K : PySem.W.Frag} {H : Hp} {Q : VK} {a b : Addr} {xs ys : List V} (h1 : SqT K H a xs) (h2 : SqT K H b ys) (hz : xs.length + ys.length ≤ 100000) (k : ∀ q H1, Ex H H1 → SqT K H1 q (xs ++ ys) → Q (.ref q) H1) : rCatA K (.ref a) (.ref b) H Q :=
  ⟨a, b, xs, ys, rfl, rfl, h1, h2, sz_of hz, fun e => k b H (Ex.refl H) (by rw [e]; exact h2), fun _ e => k a H (Ex.refl H) (by rw [e, List.append_nil]; exact h1), fun _ _ p hp => k p _ (Ex.new hp) (SqT.of upd_same)⟩
def Tu (H : Hp) (a : Addr) (xs : List V) : Prop := ∃ ob : Obj, ob.dict = none ∧ H a = some (.frz ob (.tup xs))
theorem Tu.st {K : PySem.W.Frag} {H : Hp} {a : Addr} {xs : List V} (h : Tu H a xs) : SqT K H a xs := by
  obtain ⟨ob, _, h⟩ := h
  exact .inl (.inr ⟨ob, h⟩)
theorem Tu.ex {H H' : Hp} {a : Addr} {xs : List V} (h : Tu H a xs) (e : Ex H H') : Tu H' a xs := by
  obtain ⟨ob, d, h⟩ := h
  exact ⟨ob, d, e _ _ h⟩
theorem Tu.ks {S : List Addr} {H H' : Hp} {a : Addr} {xs : List V} (h : Tu H a xs) (e : Ks S H H') (n : a ∉ S) : Tu H' a xs := by
  obtain ⟨ob, d, h⟩ := h
  exact ⟨ob, d, e _ _ n h⟩
theorem Tu.ne {H : Hp} {a b r : Addr} {xs : List V} (h : Tu H a xs) (g : Bx H b r) : a ≠ b ∧ a ≠ r := by
  obtain ⟨n, ns, h1, h2, _⟩ := g
  obtain ⟨ob, d, h⟩ := h
  exact ⟨ne_of h h1 (fun z => nomatch z), ne_of h h2 (fun z => nomatch z)⟩
def qTupF (K : PySem.W.Frag) : List V → Hp → VK → Prop := fun xs H Q => ∃ p ys, xs = [.ref p] ∧ ((SqL K H p ys ∧ ∀ l (ob : Obj), H l = none → ob.dict = none → Q (.ref l) (upd H l (.frz ob (.tup ys)))) ∨ (SqT K H p ys ∧ Q (.ref p) H))
theorem k_tupF {X : Cx} : CallR X (.type "tuple") (qTupF X.K) := by
  intro pins s σ H xs us Q I rs h
  obtain ⟨p, ys, rfl, h⟩ := h
  obtain ⟨u, rfl, ru⟩ := vals1 rs
  cases ru
  rcases h with ⟨hq, q⟩ | ⟨hq, q⟩
  · obtain ⟨its, rv, pls, hz⟩ := I.list hq
    have hlen := rv.length
    refine call_tuple_list pls.isList (fun g kp => ?_) (by rw [List.size_toArray]; omega)
    have J : Inv X pins σ H { s with heap := g } := I.kept (t' := s.toks) kp
    have J2 : Inv X pins σ (upd H g.objs.size (.frz { cls := .type "tuple", data := .seq its.toArray } (.tup ys))) { s with heap := g.push { cls := .type "tuple", data := .seq its.toArray } } :=
      J.laid (t' := s.toks) (fun c o z => Heap.get?_push_of_some _ z) (Nat.le_refl _) ⟨Heap.get?_push_size _ rfl, ⟨hz, its, rv, IsTup.new _ _⟩⟩
    exact ⟨.ref g.objs.size, _, J2, rfl, q _ _ (J.hok.fresh (Nat.le_refl _)) rfl⟩
  · obtain ⟨its, rv, pls, hz⟩ := I.tuple hq
    exact call_tuple_same pls ⟨.ref p, H, I, rfl, q⟩
theorem tupFK (K : PySem.W.Frag) {X : Cx} (h : X.K = K := by rfl) : CallR X (.type "tuple") (qTupF K) := by subst h; exact k_tupF
theorem a_tupFL {K : PySem.W.Frag} {H : Hp} {Q : VK} {p : Addr} {xs : List V} (h : SqL K H p xs) (k : ∀ q H1, H q = none → Ex H H1 → Tu H1 q xs → Q (.ref q) H1) : qTupF K [.ref p] H Q :=
  ⟨p, xs, rfl, .inl ⟨h, fun q _ n d => k q _ n (Ex.new n) ⟨_, d, upd_same⟩⟩⟩
def tBMT (f : V → List V → Hp → VK → Prop) (to : TE) (a : TA) : TE := fun σ H Q => to σ H fun x Ha => (∃ p ys, x = .ref p ∧ Tu Ha p ys) ∧ a σ Ha fun xs Hb => f x xs Hb Q
theorem w_BMT {f : V → List V → Hp → VK → Prop} {to : TE} {a : TA} {σ : L2.St} {H : Hp} {Q : VK} (h : to σ H fun x Ha => (∃ p ys, x = .ref p ∧ Tu Ha p ys) ∧ a σ Ha fun xs Hb => f x xs Hb Q) : tBMT f to a σ H Q := h
def ltr (b : Bool) : Str := if b then "r" else "w"
end Ver
set_option Elab.async false
set_option linter.all false
set_option maxRecDepth 100000
set_option maxHeartbeats 4000000
namespace Ver
open PySem PySem.Spec PyProof.Rows L2 Evl
section
variable {K : PySem.W.Frag}
abbrev rs4 : List V := [.str "rw", .str "r", .str "w", .str "-"]
/-- which datum is a right -/
def irD : PyData → Bool
  | .str x => inV (.str x) rs4
  | _ => false
def vtD (ds : List PyData) : Bool := decide (ds.length ≤ 6) && ds.all irD
theorem dpa_len {H : Hp} : ∀ {xs : List V} {ds : List PyData}, DpAll K H xs ds → xs.length = ds.length
  | _, _, .nil => rfl
  | _, _, .cons _ t => congrArg (· + 1) (dpa_len t)
theorem dpa_at {H : Hp} : ∀ {xs : List V} {ds : List PyData} {i : Nat} {v : V}, DpAll K H xs ds → xs[i]? = some v → ∃ d, ds[i]? = some d ∧ Dp K H v d
  | _, _, _, _, .nil, e => by simp at e
  | _, _, 0, _, .cons h _, e => by
    cases Option.some.inj e
    exact ⟨_, rfl, h⟩
  | _, _, i + 1, _, .cons _ t, e => dpa_at (i := i) t e
mutual
theorem dp_ex {H H' : Hp} (e : Ex H H') : ∀ {v : V} {d : PyData}, Dp K H v d → Dp K H' v d
  | _, _, .non => .non
  | _, _, .bl b => .bl b
  | _, _, .int i => .int i
  | _, _, .str x => .str x
  | _, _, .lst h t => .lst (ex_sl h e) (dpa_ex e t)
  | _, _, .tup h t => .tup (ex_st h e) (dpa_ex e t)
theorem dpa_ex {H H' : Hp} (e : Ex H H') : ∀ {xs : List V} {ds : List PyData}, DpAll K H xs ds → DpAll K H' xs ds
  | _, _, .nil => .nil
  | _, _, .cons h t => .cons (dp_ex e h) (dpa_ex e t)
end
def tyD (ds : List PyData) : Bool := vtD ds && decide (0 < ds.length)
def tagD : PyData → String
  | .none => "NoneType"
  | .bool _ => "bool"
  | .int _ => "int"
  | .str _ => "str"
  | .list _ => "list"
  | .tuple _ => "tuple"
  | .dict _ => "dict"
theorem dp_tag {H : Hp} {v : V} {d : PyData} (h : Dp K H v d) : TyB K H v (tagD d) := by
  cases h with
  | non => exact .non
  | bl b => exact .bl b
  | int i => exact .int i
  | str x => exact .str x
  | lst h _ => exact .lst h
  | tup h _ => exact .tup h
theorem tag_tup {d : PyData} (h : tagD d = "tuple") : ∃ ds, d = .tuple ds := by
  cases d <;> first | exact ⟨_, rfl⟩ | exact absurd h (by simp only [tagD]; decide)
theorem tag_lst {d : PyData} (h : tagD d = "list") : ∃ ds, d = .list ds := by
  cases d <;> first | exact ⟨_, rfl⟩ | exact absurd h (by simp only [tagD]; decide)
theorem tag_str {d : PyData} (h : tagD d = "str") : ∃ x, d = .str x := by
  cases d <;> first | exact ⟨_, rfl⟩ | exact absurd h (by simp only [tagD]; decide)
theorem tag_int {d : PyData} (h : tagD d = "int") : ∃ x, d = .int x := by
  cases d <;> first | exact ⟨_, rfl⟩ | exact absurd h (by simp only [tagD]; decide)
theorem dp_tup {H : Hp} {v : V} {ds : List PyData} (h : Dp K H v (.tuple ds)) : ∃ p xs, v = .ref p ∧ SqT K H p xs ∧ DpAll K H xs ds := by
  cases h with
  | tup h t => exact ⟨_, _, rfl, h, t⟩
theorem dp_lst {H : Hp} {v : V} {ds : List PyData} (h : Dp K H v (.list ds)) : ∃ p xs, v = .ref p ∧ SqL K H p xs ∧ DpAll K H xs ds := by
  cases h with
  | lst h t => exact ⟨_, _, rfl, h, t⟩
theorem dp_str {H : Hp} {v : V} {x : Str} (h : Dp K H v (.str x)) : v = .str x := by
  cases h with
  | str => rfl
theorem dp_int {H : Hp} {v : V} {x : Int} (h : Dp K H v (.int x)) : v = .int x := by
  cases h with
  | int => rfl
def lenD : PyData → Nat
  | .tuple ds => ds.length
  | _ => 0
def nthD : PyData → Nat → PyData
  | .tuple ds, i => ds.getD i .none
  | _, _ => .none
def numD : PyData → Int → Bool
  | .int i, m => decide (0 ≤ i) && decide (i ≤ m)
  | _, _ => false
abbrev signs : Str := "abcdefghijklmnopqrstuvwxyz"
def sgOk (c : Nat) : Bool := !(Builtin.Str.occurrences signs ⟨#[c]⟩ 0 signs.length 1).isEmpty
def nameD : PyData → Bool
  | .str s => !decide (s = "null") && (decide (1 ≤ s.length) && decide (s.length ≤ 8)) && s.cps.toList.all sgOk
  | _ => false
def placeD (d : PyData) : Bool := decide (tagD d = "tuple") && decide (lenD d = 2) && (nameD (nthD d 0) && numD (nthD d 1) 5)
def strD : PyData → Str
  | .str x => x
  | _ => ""
def fwD (d : PyData) : Str := if tagD d = "tuple" ∧ 0 < lenD d ∧ tagD (nthD d 0) = "str" then strD (nthD d 0) else ""
def srcD (d : PyData) : Bool := if fwD d = "null" then decide (lenD d = 1) else if fwD d = "number" then decide (lenD d = 2) && numD (nthD d 1) 1000 else
  inV (.str (fwD d)) [.str "value", .str "address"] && (decide (lenD d = 2) && placeD (nthD d 1))
def itemsD : PyData → List PyData
  | .list ds => ds
  | .tuple ds => ds
  | _ => []
def srcsD (d : PyData) : Bool := decide (tagD d = "list") && (itemsD d).all srcD
def typD : PyData → Bool
  | .tuple ds => tyD ds
  | _ => false
def declD (d : PyData) : Bool := decide (tagD d = "tuple") && decide (lenD d = 2) && (nameD (nthD d 0) && (typD (nthD d 1) || numD (nthD d 1) 5))
def cut13 (d : PyData) : PyData := .tuple (((itemsD d).drop 1).take 2)
def stmtD (d : PyData) : Bool := if fwD d = "let" then decide (lenD d = 4) && (declD (cut13 d) && srcD (nthD d 3)) else if fwD d = "put" then decide (lenD d = 3) && (placeD (nthD d 1) && srcD (nthD d 2)) else
  decide (fwD d = "call") && (decide (lenD d = 3) && (nameD (nthD d 1) && srcsD (nthD d 2)))
theorem fw_ne {d : PyData} (h : fwD d ≠ "") : ∃ ds, d = .tuple ds ∧ 0 < ds.length := by
  unfold fwD at h
  split at h
  · rename_i c
    obtain ⟨ds, rfl⟩ := tag_tup c.1
    exact ⟨ds, rfl, c.2.1⟩
  · exact absurd rfl h
theorem nth_dp {H : Hp} {xs : List V} {ds : List PyData} {i : Nat} (h : DpAll K H xs ds) (hi : i < ds.length) : ∃ v, xs[i]? = some v ∧ Dp K H v (nthD (.tuple ds) i) := by
  have hx : i < xs.length := by rw [dpa_len h]; exact hi
  refine ⟨xs[i], List.getElem?_eq_getElem hx, ?_⟩
  obtain ⟨d, hd, dp⟩ := dpa_at h (List.getElem?_eq_getElem hx)
  have e : nthD (.tuple ds) i = d := by
    show ds.getD i .none = d
    rw [List.getD_eq_getElem?_getD, hd]
    rfl
  rw [e]
  exact dp
theorem dpa_drop {H : Hp} : ∀ {xs : List V} {ds : List PyData} (n : Nat), DpAll K H xs ds → DpAll K H (xs.drop n) (ds.drop n)
  | _, _, 0, h => h
  | _, _, _ + 1, .nil => .nil
  | _, _, n + 1, .cons _ t => dpa_drop n t
theorem dpa_take {H : Hp} : ∀ {xs : List V} {ds : List PyData} (n : Nat), DpAll K H xs ds → DpAll K H (xs.take n) (ds.take n)
  | _, _, 0, _ => .nil
  | _, _, _ + 1, .nil => .nil
  | _, _, n + 1, .cons h t => .cons h (dpa_take n t)
theorem dpa_app {H : Hp} : ∀ {xs ys : List V} {ds es : List PyData}, DpAll K H xs ds → DpAll K H ys es → DpAll K H (xs ++ ys) (ds ++ es)
  | _, _, _, _, .nil, g => g
  | _, _, _, _, .cons h t, g => .cons h (dpa_app t g)
mutual
def smD : PyData → Bool
  | .str x => decide (x.length ≤ 100000)
  | .list ds => decide (ds.length ≤ 100000) && smAll ds
  | .tuple ds => decide (ds.length ≤ 100000) && smAll ds
  | _ => true
def smAll : List PyData → Bool
  | [] => true
  | d :: ds => smD d && smAll ds
end
def Ds (K : PySem.W.Frag) (H : Hp) (v : V) (d : PyData) : Prop := Dp K H v d ∧ smD d = true
theorem ds_ex {H H' : Hp} {v : V} {d : PyData} (h : Ds K H v d) (e : Ex H H') : Ds K H' v d := ⟨dp_ex e h.1, h.2⟩
theorem sm_at : ∀ {ds : List PyData} {i : Nat} {d : PyData}, smAll ds = true → ds[i]? = some d → smD d = true
  | [], _, _, _, e => by simp at e
  | a :: as, 0, d, h, e => by
    cases Option.some.inj e
    exact (Bool.and_eq_true _ _ ▸ h).1
  | a :: as, i + 1, d, h, e => sm_at (ds := as) (i := i) (Bool.and_eq_true _ _ ▸ h).2 e
theorem nthD_get {ds : List PyData} {i : Nat} (hi : i < ds.length) : ds[i]? = some (nthD (.tuple ds) i) := by
  show _ = some (ds.getD i .none)
  rw [List.getD_eq_getElem?_getD, List.getElem?_eq_getElem hi]
  rfl
theorem ds_nth {H : Hp} {xs : List V} {ds : List PyData} {i : Nat} (h : DpAll K H xs ds) (s : smAll ds = true) (hi : i < ds.length) : ∃ v, xs[i]? = some v ∧ Ds K H v (nthD (.tuple ds) i) := by
  obtain ⟨v, hv, dv⟩ := nth_dp h hi
  exact ⟨v, hv, dv, sm_at s (nthD_get hi)⟩
/-- an item of a bounded datum -/
theorem a_nthS {H : Hp} {Q : VK} {p : Addr} {xs : List V} {ds : List PyData} {i : Nat} (hT : SqT K H p xs) (h : DpAll K H xs ds) (s : smAll ds = true) (hi : i < ds.length) (k : ∀ v, Ds K H v (nthD (.tuple ds) i) → Q v H) : rIxT K (.ref p) (.int (i : Int)) H Q := by
  obtain ⟨v, hv, dv⟩ := ds_nth h s hi
  exact a_ixT hT (atI_nat hv) (k v dv)
theorem ds_tupz {H : Hp} {v : V} {d : PyData} (h : Ds K H v d) (c : tagD d = "tuple") : ∃ p xs ds, v = .ref p ∧ d = .tuple ds ∧ SqT K H p xs ∧ DpAll K H xs ds ∧ smAll ds = true ∧ ds.length ≤ 100000 ∧ xs.length = ds.length := by
  obtain ⟨ds, rfl⟩ := tag_tup c
  obtain ⟨p, xs, rfl, h1, h2⟩ := dp_tup h.1
  have h3 : (decide (ds.length ≤ 100000) && smAll ds) = true := h.2
  rw [Bool.and_eq_true] at h3
  exact ⟨p, xs, ds, rfl, rfl, h1, h2, h3.2, of_decide_eq_true h3.1, dpa_len h2⟩
theorem ds_tup {H : Hp} {v : V} {d : PyData} (h : Ds K H v d) (c : tagD d = "tuple") : ∃ p xs ds, v = .ref p ∧ d = .tuple ds ∧ SqT K H p xs ∧ DpAll K H xs ds ∧ smAll ds = true ∧ xs.length = ds.length := by
  obtain ⟨p, xs, ds, e1, e2, h1, h2, h3, _, h4⟩ := ds_tupz h c
  exact ⟨p, xs, ds, e1, e2, h1, h2, h3, h4⟩
theorem sm_tup {ds : List PyData} (h : smAll ds = true) (z : ds.length ≤ 100000) : smD (.tuple ds) = true := by
  show (decide (ds.length ≤ 100000) && smAll ds) = true
  rw [decide_eq_true z, h]
  rfl
theorem sm_lst {ds : List PyData} (h : smAll ds = true) (z : ds.length ≤ 100000) : smD (.list ds) = true := by
  show (decide (ds.length ≤ 100000) && smAll ds) = true
  rw [decide_eq_true z, h]
  rfl
theorem ds_lst {H : Hp} {v : V} {d : PyData} (h : Ds K H v d) (c : tagD d = "list") : ∃ p xs ds, v = .ref p ∧ d = .list ds ∧ SqL K H p xs ∧ DpAll K H xs ds ∧ smAll ds = true ∧ ds.length ≤ 100000 ∧ xs.length = ds.length := by
  obtain ⟨ds, rfl⟩ := tag_lst c
  obtain ⟨p, xs, rfl, h1, h2⟩ := dp_lst h.1
  have h3 : (decide (ds.length ≤ 100000) && smAll ds) = true := h.2
  rw [Bool.and_eq_true] at h3
  exact ⟨p, xs, ds, rfl, rfl, h1, h2, h3.2, of_decide_eq_true h3.1, dpa_len h2⟩
theorem ds_str {H : Hp} {v : V} {d : PyData} (h : Ds K H v d) (c : tagD d = "str") : ∃ x, v = .str x ∧ d = .str x ∧ x.length ≤ 100000 := by
  obtain ⟨x, rfl⟩ := tag_str c
  exact ⟨x, dp_str h.1, rfl, of_decide_eq_true h.2⟩
theorem ds_int {H : Hp} {v : V} {d : PyData} (h : Ds K H v d) (c : tagD d = "int") : ∃ x, v = .int x ∧ d = .int x := by
  obtain ⟨x, rfl⟩ := tag_int c
  exact ⟨x, dp_int h.1, rfl⟩
theorem sm_drop : ∀ {ds : List PyData} (n : Nat), smAll ds = true → smAll (ds.drop n) = true
  | _, 0, h => h
  | [], _ + 1, h => h
  | _ :: ds, n + 1, h => sm_drop (ds := ds) n (Bool.and_eq_true _ _ ▸ h).2
theorem sm_take : ∀ {ds : List PyData} (n : Nat), smAll ds = true → smAll (ds.take n) = true
  | _, 0, _ => rfl
  | [], _ + 1, h => h
  | a :: ds, n + 1, h => by
    have h' := (Bool.and_eq_true _ _ ▸ h : smD a = true ∧ smAll ds = true)
    show (smD a && smAll (ds.take n)) = true
    rw [h'.1, sm_take n h'.2]
    rfl
/-- a promise of a question asked of one datum -/
def pF1 (K : PySem.W.Frag) (f : PyData → Bool) : Sp := fun vs H Q _ => ∃ v d, vs = [v] ∧ Ds K H v d ∧ RV1 (.bl (f d)) H Q
def pNum (K : PySem.W.Frag) : Sp := fun vs H Q _ => ∃ v d m, vs = [v, .int m] ∧ Ds K H v d ∧ RV1 (.bl (numD d m)) H Q
theorem not_tag {d : PyData} {s : String} (c : ¬ decide (tagD d = s) = true) : tagD d ≠ s := fun z => c (decide_eq_true z)
def vtyD : PyData → Bool
  | .tuple ds => vtD ds
  | _ => false
theorem typD_eq (d : PyData) : typD d = (vtyD d && decide (0 < lenD d)) := by
  cases d <;> rfl
theorem vtyD_tag {d : PyData} (h : tagD d ≠ "tuple") : vtyD d = false := by
  cases d <;> first | rfl | exact absurd rfl h
theorem nameD_tag {d : PyData} (h : tagD d ≠ "str") : nameD d = false := by
  cases d <;> first | rfl | exact absurd rfl h
theorem irD_tag {d : PyData} (h : tagD d ≠ "str") : irD d = false := by
  cases d <;> first | rfl | exact absurd rfl h
theorem placeD_tag {d : PyData} (h : tagD d ≠ "tuple") : placeD d = false := by
  unfold placeD
  rw [decide_eq_false h]
  rfl
theorem declD_tag {d : PyData} (h : tagD d ≠ "tuple") : declD d = false := by
  unfold declD
  rw [decide_eq_false h]
  rfl
theorem srcsD_tag {d : PyData} (h : tagD d ≠ "list") : srcsD d = false := by
  unfold srcsD
  rw [decide_eq_false h]
  rfl
theorem nf {b : Bool} (c : ¬ b = true) : b = false := Bool.eq_false_iff.mpr c
theorem bools_snoc (f : PyData → Bool) {ds : List PyData} {k : Nat} {d : PyData} (h : ds[k]? = some d) : ((ds.take (k + 1)).map f).map V.bl = ((ds.take k).map f).map V.bl ++ [.bl (f d)] := by
  rw [List.take_add_one, h, List.map_append, List.map_append]
  rfl
theorem bools_len (f : PyData → Bool) (ds : List PyData) (k : Nat) : (((ds.take k).map f).map V.bl).length = min k ds.length := by
  rw [List.length_map, List.length_map, List.length_take]
theorem bools_all (f : PyData → Bool) (ds : List PyData) : (ds.map f).all id = ds.all f := by
  rw [List.all_map]
  rfl
theorem ds_at {H : Hp} {xs : List V} {ds : List PyData} {i : Nat} {v : V} (h : DpAll K H xs ds) (s : smAll ds = true) (e : xs[i]? = some v) : ∃ d, ds[i]? = some d ∧ Ds K H v d := by
  obtain ⟨d, hd, dv⟩ := dpa_at h e
  exact ⟨d, hd, dv, sm_at s hd⟩
theorem at_lt {α : Type} {xs : List α} {i : Nat} {v : α} (h : xs[i]? = some v) : i < xs.length := (List.getElem?_eq_some_iff.mp h).1
/-- a comprehension over characters -/
theorem cp_chars {σ : L2.St} {H : Hp} {g : TG} {t : TT} {te : TE} {Q : VK} {z : Str} {vs : List Nat} (J : Addr → Nat → Hp → Prop) (h0 : ∀ p, H p = none → J p 0 (upd H p (.lst [])))
    (hs : ∀ (p : Addr) (k : Nat) (c : Nat) (h : Hp), H p = none → z.cps[k]? = some c → J p k h → g (.str ⟨#[c]⟩) (wipe σ vs) h fun s2 h2 => wipe s2 vs = wipe σ vs ∧ t s2 h2 fun b h3 =>
      if b = true then te s2 h3 fun a h4 => ∃ acc, h4 p = some (.lst acc) ∧ acc.length < sizeLine ∧ J p (k + 1) (upd h4 p (.lst (acc ++ [a]))) else J p (k + 1) h3)
    (hd : ∀ p h, H p = none → J p z.cps.size h → Q (.ref p) h) : CompG (Its z) g t te vs σ H Q := fun p hp => by
  refine ⟨fun i m h => m = z.cps.size - i ∧ i ≤ z.cps.size ∧ J p i h, ⟨_, rfl, Nat.zero_le _, h0 p hp⟩, ?_⟩
  rintro i m h ⟨rfl, hi, q⟩
  by_cases hlt : i < z.cps.size
  · refine .inr ⟨hlt, J p (i + 1), fun h' q' => ⟨z.cps.size - (i + 1), by omega, rfl, hlt, q'⟩, fun x h' y => ?_⟩
    obtain ⟨e, c, y, e2⟩ := y
    subst e e2
    exact hs p i c _ hp y q
  · have e : i = z.cps.size := by omega
    subst e
    exact .inl ⟨Nat.le_refl _, hd p h hp q⟩
theorem chars_snoc {s : Str} {k c : Nat} (h : s.cps[k]? = some c) : ((s.cps.toList.take (k + 1)).map sgOk).map V.bl = ((s.cps.toList.take k).map sgOk).map V.bl ++ [.bl (sgOk c)] := by
  have h' : s.cps.toList[k]? = some c := by simpa using h
  rw [List.take_add_one, h', List.map_append, List.map_append]
  rfl
theorem fw_str {ds : List PyData} {x : Str} (h : 0 < ds.length) (e : nthD (.tuple ds) 0 = .str x) : fwD (.tuple ds) = x := by
  unfold fwD
  rw [if_pos ⟨rfl, h, by rw [e]; rfl⟩, e]
  rfl
theorem fw_no {d : PyData} (h : tagD d ≠ "tuple" ∨ lenD d = 0 ∨ tagD (nthD d 0) ≠ "str") : fwD d = "" := by
  unfold fwD
  refine if_neg fun z => ?_
  rcases h with h | h | h
  · exact h z.1
  · have := z.2.1; omega
  · exact h z.2.2
theorem vt_nil (ds : List PyData) (h : ¬ ds.length ≤ 6) : vtD ds = false := by
  unfold vtD
  rw [decide_eq_false h]
  rfl
theorem vt_all (ds : List PyData) (h : ds.length ≤ 6) : vtD ds = ds.all irD := by
  unfold vtD
  rw [decide_eq_true h]
  rfl
theorem a_sl13 {p : Addr} {xs : List V} {H : Hp} {Q : VK} (h : SqT K H p xs) (hn : 3 ≤ xs.length) (k : ∀ p H1, H p = none → Ex H H1 → H1 p = some (.tup ((xs.drop 1).take 2)) → Q (.ref p) H1) : rSlA K (.ref p) (some 1) (some 3) H Q := by
  have e1 : HT.sIx xs.length 0 (some 1) = 1 := by
    rw [show HT.sIx xs.length 0 (some 1) = min 1 xs.length from HT.sIx_nat xs.length 0 1]
    omega
  have e3 : HT.sIx xs.length xs.length (some 3) = 3 := by
    rw [show HT.sIx xs.length xs.length (some 3) = min 3 xs.length from HT.sIx_nat xs.length xs.length 3]
    omega
  refine ⟨p, xs, rfl, h, fun z => ?_, fun _ l hp => ?_⟩
  · rw [e1] at z
    exact absurd z.1 (by decide)
  · have e : cutV xs (some 1) (some 3) = (xs.drop 1).take 2 := by
      unfold cutV
      rw [e1, e3]
    rw [e]
    exact k l _ hp (Ex.new hp) upd_same
def dl (S : List Addr) (H : Hp) : Hp := fun a => if a ∈ S then none else H a
theorem dl_nin {S : List Addr} {H : Hp} {a : Addr} (h : a ∉ S) : dl S H a = H a := if_neg h
theorem dl_in {S : List Addr} {H : Hp} {a : Addr} (h : a ∈ S) : dl S H a = none := if_pos h
theorem dl_le (S : List Addr) (H : Hp) : Ex (dl S H) H := fun a o e => by
  by_cases h : a ∈ S
  · rw [dl_in h] at e
    cases e
  · rw [dl_nin h] at e
    exact e
theorem dl_ex {S : List Addr} {H H1 : Hp} (e : Ex H H1) : Ex (dl S H) (dl S H1) := fun a o q => by
  by_cases h : a ∈ S
  · rw [dl_in h] at q
    cases q
  · rw [dl_nin h] at q ⊢
    exact e a o q
theorem dl_ks {S : List Addr} {H H1 : Hp} (e : Ks S H H1) : Ex (dl S H) (dl S H1) := fun a o q => by
  by_cases h : a ∈ S
  · rw [dl_in h] at q
    cases q
  · rw [dl_nin h] at q ⊢
    exact e a o h q
theorem dl_sub {S T : List Addr} {H : Hp} (h : ∀ a ∈ S, a ∈ T) : Ex (dl T H) (dl S H) := fun a o q => by
  by_cases k : a ∈ T
  · rw [dl_in k] at q
    cases q
  · rw [dl_nin k] at q
    rw [dl_nin fun z => k (h a z)]
    exact q
theorem dl_upd {S : List Addr} {H : Hp} {p : Addr} {o : HO} (h : p ∈ S) : dl S (upd H p o) = dl S H := by
  funext a
  by_cases k : a ∈ S
  · rw [dl_in k, dl_in k]
  · rw [dl_nin k, dl_nin k, upd_ne fun z => k (by rw [z]; exact h)]
/-- places of S are there -/
def Al (S : List Addr) (H : Hp) : Prop := ∀ a ∈ S, H a ≠ none
theorem Al.ex {S : List Addr} {H H1 : Hp} (h : Al S H) (e : Ex H H1) : Al S H1 := fun a k n => by
  cases q : H a with
  | none => exact h a k q
  | some o =>
    rw [e a o q] at n
    cases n
theorem Al.nil {H : Hp} : Al [] H := fun _ k => by cases k
theorem Al.cons {S : List Addr} {H : Hp} {p : Addr} {o : HO} (h : Al S H) (e : H p = some o) : Al (p :: S) H := fun a k => by
  rcases List.mem_cons.mp k with rfl | k
  · rw [e]
    exact fun z => by cases z
  · exact h a k
theorem Al.upd {S : List Addr} {H : Hp} {p : Addr} {o : HO} (h : Al S H) : Al S (L2.upd H p o) := fun a k => by
  by_cases z : a = p
  · rw [z, upd_same]
    exact fun z => by cases z
  · rw [upd_ne z]
    exact h a k
theorem ks_none {S : List Addr} {H H' : Hp} {q : Addr} (e : Ks S H H') (n : H' q = none) (h : q ∉ S) : H q = none := by
  cases z : H q with
  | none => rfl
  | some o =>
    rw [e q o h z] at n
    cases n
theorem Al.nin {S : List Addr} {H : Hp} {p : Addr} (h : Al S H) (n : H p = none) : p ∉ S := fun k => h p k n
/-- from the old heap to a new one without a place that is new -/
theorem dl_new {S : List Addr} {H H1 : Hp} {p : Addr} (n : H p = none) (e : Ex H H1) : Ex (dl S H) (dl (p :: S) H1) := fun a o q => by
  by_cases h : a ∈ S
  · rw [dl_in h] at q
    cases q
  · rw [dl_nin h] at q
    have k : a ≠ p := ne_of_none q n
    rw [dl_nin fun z => (List.mem_cons.mp z).elim k h]
    exact e a o q
theorem dl_at {S : List Addr} {H : Hp} {p : Addr} {o : HO} (h : p ∉ S) (e : H p = some o) : dl S H p = some o := by rw [dl_nin h]; exact e
theorem tu_dl {S : List Addr} {H : Hp} {p : Addr} {xs : List V} (h : p ∉ S) (e : Tu H p xs) : Tu (dl S H) p xs := by
  unfold Tu
  rw [dl_nin h]
  exact e
theorem dpa_snoc {H : Hp} {xs : List V} {ds : List PyData} {v : V} {d : PyData} (h : DpAll K H xs ds) (k : Dp K H v d) : DpAll K H (xs ++ [v]) (ds ++ [d]) := dpa_app h (.cons k .nil)
theorem take_snoc {α : Type} {ds : List α} {k : Nat} {d : α} (h : ds[k]? = some d) : ds.take (k + 1) = ds.take k ++ [d] := by
  rw [List.take_add_one, h]
  rfl
theorem take_len {α : Type} {ds : List α} {k : Nat} {d : α} (h : ds[k]? = some d) : (ds.take k).length = k := by
  have := at_lt h
  rw [List.length_take]
  omega
theorem sl_dl {S : List Addr} {H : Hp} {p : Addr} {xs : List V} (h : SqL K (dl S H) p xs) : SqL K H p xs := ex_sl h (dl_le S H)
theorem st_dl {S : List Addr} {H : Hp} {p : Addr} {xs : List V} (h : SqT K (dl S H) p xs) : SqT K H p xs := ex_st h (dl_le S H)
/-- a list of data that stands in a heap -/
structure Dl (K : PySem.W.Frag) (G : Hp) (p : Addr) (ds : List PyData) : Prop where
  ex : ∃ xs, SqL K G p xs ∧ DpAll K G xs ds
  sm : smAll ds = true
  le : ds.length ≤ 100000
theorem Dl.up {G G' : Hp} {p : Addr} {ds : List PyData} (h : Dl K G p ds) (e : Ex G G') : Dl K G' p ds := by
  obtain ⟨xs, h1, h2⟩ := h.ex
  exact ⟨⟨xs, ex_sl h1 e, dpa_ex e h2⟩, h.sm, h.le⟩
def pCop (K : PySem.W.Frag) : Sp := fun vs H Q _ => ∃ S v d, vs = [v] ∧ Al S H ∧ Ds K (dl S H) v d ∧ (tagD d ≠ "list" → Q v H) ∧
  (∀ ds, d = .list ds → ∀ q ys H1, H q = none → Ex H H1 → H1 q = some (.lst ys) → DpAll K (dl S H1) ys ds → Q (.ref q) H1)
def pCs (K : PySem.W.Frag) : Sp := fun vs H Q _ => ∃ S v d, vs = [v] ∧ Al S H ∧ Ds K (dl S H) v d ∧ ∀ v' H1, Ex H H1 → Dp K (dl S H1) v' d → Q v' H1
def pCss (K : PySem.W.Frag) : Sp := fun vs H Q _ => ∃ S p ds, vs = [.ref p] ∧ Al S H ∧ Dl K (dl S H) p ds ∧ ∀ q ys H1, H q = none → Ex H H1 → H1 q = some (.lst ys) → DpAll K (dl S H1) ys ds → Q (.ref q) H1
def GetF (K : PySem.W.Frag) (f : Str) (x : V) (H : Hp) (Q : VK) : Prop := ∃ a C dx fs v, x = .ref a ∧ H a = some (.ins C dx fs) ∧ Cls K C ∧ NoAttr K C f ∧ fs.lookup f = some v ∧ Q v H
def SetF (K : PySem.W.Frag) (f : Str) (x y : V) (H : Hp) (N : Hp → Prop) : Prop := ∃ a C dx fs, x = .ref a ∧ H a = some (.ins C dx fs) ∧ Cls K C ∧ NoAttr K C f ∧ fs.length < 1000 ∧ N (upd H a (.ins C dx (putF f y fs)))
def NewI (C : Addr) (sp : Sp) (E : XK) (vs : List V) (H : Hp) (Q : VK) : Prop := ∀ x dx, H x = none → H dx = none → dx ≠ x → sp (.ref x :: vs) (upd (upd H dx (.own x)) x (.ins C dx [])) (fun v H2 => v = .non ∧ Q (.ref x) H2) E
theorem w_getF {σ : L2.St} {H : Hp} {ta : TE} {f : Str} {Q : VK} (h : ta σ H fun x Ha => GetF K f x Ha Q) : tFld K ta f σ H Q := h
theorem fldK (K : PySem.W.Frag) {X : Cx} {e : Expr} {ta : TE} {f : Str} {pos : Pos} (he : PE X e ta) (hb : attributeBase e f X.env (eval e X.env) = eval e X.env) (h : X.K = K := by rfl) : PE X (.Attribute e f pos) (tFld K ta f) := by
  subst h
  exact pe_fld he hb
theorem w_setF {σ : L2.St} {H : Hp} {ta tv : TE} {f : Str} {D : Ends} (h : tv σ H fun y Ha => ta σ Ha fun x Hb => SetF K f x y Hb fun Hc => D.nx σ Hc) : sFld K ta tv f D σ H := h
theorem w_newI {σ : L2.St} {H : Hp} {C : Addr} {sp : Sp} {E : XK} {t : TA} {Q : VK} (h : t σ H fun vs Ha => NewI C sp E vs Ha Q) : tMake C sp [] E t σ H Q := by
  have e : (fun vs Ha => NewI C sp E vs Ha Q) = fun (vs : List V) H1 => ∀ x dx, H1 x = none → H1 dx = none → dx ≠ x → sp (.ref x :: (vs ++ [])) (upd (upd H1 dx (.own x)) x (.ins C dx [])) (fun v H2 => v = .non ∧ Q (.ref x) H2) E := by
    funext vs Ha
    rw [List.append_nil]
    rfl
  show t σ H fun vs H1 => ∀ x dx, H1 x = none → H1 dx = none → dx ≠ x → sp (.ref x :: (vs ++ [])) (upd (upd H1 dx (.own x)) x (.ins C dx [])) (fun v H2 => v = .non ∧ Q (.ref x) H2) E
  rw [← e]
  exact h
theorem w_callS {σ : L2.St} {H : Hp} {sp : Sp} {E : L2.St → XK} {t : TA} {Q : VK} (h : t σ H fun vs Ha => sp vs Ha Q (E σ)) : tCallS sp E t σ H Q := h
theorem a_get {H : Hp} {a C dx : Addr} {fs : List (Str × V)} {f : Str} {v : V} {Q : VK} (c : Cls K C) (n : PySem.W.findIn K (.ref C) f = some none) (e : H a = some (.ins C dx fs)) (l : fs.lookup f = some v) (k : Q v H) : GetF K f (.ref a) H Q := ⟨a, C, dx, fs, v, rfl, e, c, n, l, k⟩
theorem a_put {H : Hp} {a C dx : Addr} {fs : List (Str × V)} {f : Str} {y : V} {N : Hp → Prop} (c : Cls K C) (n : PySem.W.findIn K (.ref C) f = some none) (e : H a = some (.ins C dx fs)) (hl : fs.length < 1000) (k : N (upd H a (.ins C dx (putF f y fs)))) : SetF K f (.ref a) y H N := ⟨a, C, dx, fs, rfl, e, c, n, hl, k⟩
/-- a new instance: what is made, then __init__ -/
theorem a_new {H : Hp} {C : Addr} {sp : Sp} {E : XK} {vs : List V} {Q : VK} (k : ∀ x dx H1, H x = none → H dx = none → dx ≠ x → Ex H H1 → H1 x = some (.ins C dx []) → H1 dx = some (.own x) → sp (.ref x :: vs) H1 (fun v H2 => v = .non ∧ Q (.ref x) H2) E) : NewI C sp E vs H Q := fun x dx n1 n2 n3 =>
  k x dx _ n1 n2 n3 ((Ex.new n2).mut n1) upd_same (by rw [upd_ne n3, upd_same])
def fnF (nv : V) (p b : Addr) : List (Str × V) := putF "body" (.ref b) (putF "params" (.ref p) (putF "name" nv []))
theorem fn_name (nv : V) (p b : Addr) : (fnF nv p b).lookup ("name" : Str) = some nv := by
  unfold fnF
  rw [lookup_putF, if_neg (by decide +kernel), lookup_putF, if_neg (by decide +kernel), lookup_putF, if_pos rfl]
theorem fn_params (nv : V) (p b : Addr) : (fnF nv p b).lookup ("params" : Str) = some (.ref p) := by
  unfold fnF
  rw [lookup_putF, if_neg (by decide +kernel), lookup_putF, if_pos rfl]
theorem fn_body (nv : V) (p b : Addr) : (fnF nv p b).lookup ("body" : Str) = some (.ref b) := by
  unfold fnF
  rw [lookup_putF, if_pos rfl]
theorem putF_le (f : Str) (v : V) : ∀ fs : List (Str × V), (putF f v fs).length ≤ fs.length + 1
  | [] => Nat.le_refl _
  | (g, x) :: r => by
    show (if g = f then (g, v) :: r else (g, x) :: putF f v r).length ≤ _
    by_cases h : g = f
    · rw [if_pos h]
      exact Nat.le_succ _
    · rw [if_neg h, List.length_cons, List.length_cons]
      exact Nat.succ_le_succ (putF_le f v r)
theorem put1_lt (f : Str) (v : V) : (putF f v []).length < 1000 := Nat.lt_of_le_of_lt (putF_le f v []) (by decide)
theorem put2_lt (f g : Str) (v u : V) : (putF f v (putF g u [])).length < 1000 := by
  have h1 := putF_le f v (putF g u [])
  have h2 := putF_le g u []
  have h3 : ([] : List (Str × V)).length = 0 := rfl
  omega
def pgF (f s : Addr) : List (Str × V) := putF "statements" (.ref s) (putF "functions" (.ref f) [])
theorem pg_fns (f s : Addr) : (pgF f s).lookup ("functions" : Str) = some (.ref f) := by
  unfold pgF
  rw [lookup_putF, if_neg (by decide +kernel), lookup_putF, if_pos rfl]
theorem pg_sts (f s : Addr) : (pgF f s).lookup ("statements" : Str) = some (.ref s) := by
  unfold pgF
  rw [lookup_putF, if_pos rfl]
/-- a list of data that can be changed -/
structure Dx (K : PySem.W.Frag) (G : Hp) (p : Addr) (ds : List PyData) : Prop where
  ex : ∃ xs, G p = some (.lst xs) ∧ DpAll K G xs ds
  sm : smAll ds = true
  le : ds.length ≤ 100000
theorem Dx.up {G G' : Hp} {p : Addr} {ds : List PyData} (h : Dx K G p ds) (e : Ex G G') : Dx K G' p ds := by
  obtain ⟨xs, h1, h2⟩ := h.ex
  exact ⟨⟨xs, e _ _ h1, dpa_ex e h2⟩, h.sm, h.le⟩
theorem Dx.dl {G : Hp} {p : Addr} {ds : List PyData} (h : Dx K G p ds) : Dl K G p ds := by
  obtain ⟨xs, h1, h2⟩ := h.ex
  exact ⟨⟨xs, SqL.of h1, h2⟩, h.sm, h.le⟩
structure FD where
  n : PyData
  p : List PyData
  b : List PyData
/-- a function as an object -/
structure FnAt (K : PySem.W.Frag) (C : Addr) (G : Hp) (a : Addr) (f : FD) : Prop where
  ex : ∃ dx nv q1 q2, G a = some (.ins C dx (fnF nv q1 q2)) ∧ Ds K G nv f.n ∧ Dx K G q1 f.p ∧ Dx K G q2 f.b
theorem FnAt.up {C : Addr} {G G' : Hp} {a : Addr} {f : FD} (h : FnAt K C G a f) (e : Ex G G') : FnAt K C G' a f := by
  obtain ⟨dx, nv, q1, q2, h1, h2, h3, h4⟩ := h.ex
  exact ⟨dx, nv, q1, q2, e _ _ h1, ds_ex h2 e, h3.up e, h4.up e⟩
inductive FnAll (K : PySem.W.Frag) (C : Addr) (G : Hp) : List V → List FD → Prop
  | nil : FnAll K C G [] []
  | cons {a : Addr} {f : FD} {xs : List V} {fs : List FD} : FnAt K C G a f → FnAll K C G xs fs → FnAll K C G (.ref a :: xs) (f :: fs)
theorem FnAll.up {C : Addr} {G G' : Hp} (e : Ex G G') : ∀ {xs : List V} {fs : List FD}, FnAll K C G xs fs → FnAll K C G' xs fs
  | _, _, .nil => .nil
  | _, _, .cons h t => .cons (h.up e) (t.up e)
theorem FnAll.len {C : Addr} {G : Hp} : ∀ {xs : List V} {fs : List FD}, FnAll K C G xs fs → xs.length = fs.length
  | _, _, .nil => rfl
  | _, _, .cons _ t => congrArg (· + 1) t.len
theorem FnAll.get {C : Addr} {G : Hp} : ∀ {xs : List V} {fs : List FD} {i : Nat} {v : V}, FnAll K C G xs fs → xs[i]? = some v → ∃ a f, v = .ref a ∧ fs[i]? = some f ∧ FnAt K C G a f
  | _, _, _, _, .nil, e => by simp at e
  | _, _, 0, _, .cons h _, e => by
    cases Option.some.inj e
    exact ⟨_, _, rfl, rfl, h⟩
  | _, _, i + 1, _, .cons _ t, e => FnAll.get (i := i) t e
theorem FnAll.snoc {C : Addr} {G : Hp} {a : Addr} {f : FD} (k : FnAt K C G a f) : ∀ {xs : List V} {fs : List FD}, FnAll K C G xs fs → FnAll K C G (xs ++ [.ref a]) (fs ++ [f])
  | _, _, .nil => .cons k .nil
  | _, _, .cons h t => .cons h (FnAll.snoc k t)
def stsD (m : Nat) (ds : List PyData) : Bool := decide (ds.length ≤ m) && ds.all stmtD
def fnD (f : FD) : Bool := nameD f.n && (decide (f.p.length ≤ 4) && f.p.all declD) && stsD 12 f.b
/-- a function object that is new, its lists too -/
def NewF (C : Addr) (H H1 : Hp) (v : V) : Prop := ∃ a dx nv q1 q2, v = .ref a ∧ H a = none ∧ H1 a = some (.ins C dx (fnF nv q1 q2)) ∧ H q1 = none ∧ H q2 = none
theorem ex_none {H H1 : Hp} {a : Addr} (e : Ex H H1) (n : H1 a = none) : H a = none := by
  cases z : H a with
  | none => rfl
  | some o =>
    rw [e _ _ z] at n
    cases n
theorem NewF.up {C : Addr} {H H1 H2 : Hp} {v : V} (h : NewF C H H1 v) (e : Ex H1 H2) : NewF C H H2 v := by
  obtain ⟨a, dx, nv, q1, q2, h1, h2, h3, h4, h5⟩ := h
  exact ⟨a, dx, nv, q1, q2, h1, h2, e _ _ h3, h4, h5⟩
theorem NewF.down {C : Addr} {H0 H H1 : Hp} {v : V} (h : NewF C H H1 v) (e : Ex H0 H) : NewF C H0 H1 v := by
  obtain ⟨a, dx, nv, q1, q2, h1, h2, h3, h4, h5⟩ := h
  exact ⟨a, dx, nv, q1, q2, h1, ex_none e h2, h3, ex_none e h4, ex_none e h5⟩
/-- .. also behind a change of another kind of thing -/
theorem NewF.mut {C : Addr} {H H1 : Hp} {v : V} {p : Addr} {xs : List V} {o : HO} (h : NewF C H H1 v) (f : H1 p = some (.lst xs)) : NewF C H (upd H1 p o) v := by
  obtain ⟨a, dx, nv, q1, q2, h1, h2, h3, h4, h5⟩ := h
  have z : a ≠ p := fun z => by
    rw [z, f] at h3
    cases h3
  exact ⟨a, dx, nv, q1, q2, h1, h2, by rw [upd_ne z]; exact h3, h4, h5⟩
theorem NewF.ks {C : Addr} {H H1 H2 : Hp} {v : V} {p : Addr} {o : HO} (h : NewF C H H1 v) (f : H p = some o) (k : Ks [p] H1 H2) : NewF C H H2 v := by
  obtain ⟨a, dx, nv, q1, q2, h1, h2, h3, h4, h5⟩ := h
  have z : a ≠ p := fun z => by
    rw [z, f] at h2
    cases h2
  exact ⟨a, dx, nv, q1, q2, h1, h2, k _ _ (by simpa using z) h3, h4, h5⟩
def pFi (K : PySem.W.Frag) (C : Addr) : Sp := fun vs H Q _ => ∃ S a dx nv pp bp, ∃ f : FD, vs = [.ref a, nv, .ref pp, .ref bp] ∧ Al S H ∧ a ∈ S ∧ H a = some (.ins C dx []) ∧ Ds K (dl S H) nv f.n ∧ Dl K (dl S H) pp f.p ∧ Dl K (dl S H) bp f.b ∧
  ∀ q1 q2 ys1 ys2 H1, Ks [a] H H1 → H q1 = none → H q2 = none → q1 ≠ q2 → H1 a = some (.ins C dx (fnF nv q1 q2)) → H1 q1 = some (.lst ys1) → H1 q2 = some (.lst ys2) → DpAll K (dl S H1) ys1 f.p → DpAll K (dl S H1) ys2 f.b → Q .non H1
def pCf (K : PySem.W.Frag) (C : Addr) : Sp := fun vs H Q _ => ∃ S a f, vs = [.ref a] ∧ Al S H ∧ FnAt K C (dl S H) a f ∧ ∀ b H1, H b = none → Ex H H1 → FnAt K C (dl S H1) b f → NewF C H H1 (.ref b) → Q (.ref b) H1
def pCfs (K : PySem.W.Frag) (C : Addr) : Sp := fun vs H Q _ => ∃ S p xs fs, vs = [.ref p] ∧ Al S H ∧ SqL K (dl S H) p xs ∧ FnAll K C (dl S H) xs fs ∧ fs.length ≤ 100000 ∧ ∀ q ys H1, H q = none → Ex H H1 → H1 q = some (.lst ys) → FnAll K C (dl S H1) ys fs → (∀ v ∈ ys, NewF C H H1 v) → Q (.ref q) H1
def pSts (K : PySem.W.Frag) : Sp := fun vs H Q _ => ∃ p ds m, vs = [.ref p, .int (m : Nat)] ∧ Dl K H p ds ∧ RV1 (.bl (stsD m ds)) H Q
def pIf (K : PySem.W.Frag) (C : Addr) : Sp := fun vs H Q _ => ∃ a f, vs = [.ref a] ∧ FnAt K C H a f ∧ RV1 (.bl (fnD f)) H Q
def letsD (ds : List PyData) : List PyData := (ds.filter fun d => decide (fwD d = "let")).map cut13
theorem lets_snoc (ds : List PyData) (d : PyData) : letsD (ds ++ [d]) = letsD ds ++ (if fwD d = "let" then [cut13 d] else []) := by
  unfold letsD
  rw [List.filter_append, List.map_append]
  by_cases h : fwD d = "let"
  · rw [if_pos h, List.filter_cons_of_pos (by simpa using h)]
    rfl
  · rw [if_neg h, List.filter_cons_of_neg (by simpa using h)]
    rfl
theorem lets_len (ds : List PyData) : (letsD ds).length ≤ ds.length := by
  unfold letsD
  rw [List.length_map]
  exact List.length_filter_le _ _
structure StOk (d : PyData) (ds : List PyData) : Prop where
  e : d = .tuple ds
  ne : 0 < ds.length
  w : nthD (.tuple ds) 0 = .str (fwD d)
  lt : fwD d = "let" → ds.length = 4 ∧ declD (cut13 d) = true
  cl : fwD d = "call" → ds.length = 3 ∧ nameD (nthD d 1) = true ∧ srcsD (nthD d 2) = true
theorem st_ok {d : PyData} (h : stmtD d = true) : ∃ ds, StOk d ds := by
  have hw : fwD d ≠ "" := fun z => by
    unfold stmtD at h
    rw [z, if_neg (by decide), if_neg (by decide)] at h
    rw [decide_eq_false (by decide)] at h
    cases h
  obtain ⟨ds, e, ne⟩ := fw_ne hw
  have hs : tagD (nthD d 0) = "str" := Decidable.byContradiction fun z => hw (fw_no (.inr (.inr z)))
  obtain ⟨x, ex⟩ := tag_str hs
  refine ⟨ds, e, ne, ?_, fun c => ?_, fun c => ?_⟩
  · subst e
    rw [ex, fw_str ne ex]
  · unfold stmtD at h
    rw [if_pos c, Bool.and_eq_true, Bool.and_eq_true] at h
    have h1 := of_decide_eq_true h.1
    subst e
    exact ⟨h1, h.2.1⟩
  · unfold stmtD at h
    rw [c, if_neg (by decide), if_neg (by decide), Bool.and_eq_true, Bool.and_eq_true, Bool.and_eq_true] at h
    have h1 := of_decide_eq_true h.2.1
    subst e
    exact ⟨h1, h.2.2.1, h.2.2.2⟩
structure PrOk (d : PyData) (ds : List PyData) : Prop where
  e : d = .tuple ds
  l : ds.length = 2
  n : nameD (nthD (.tuple ds) 0) = true
theorem pr_ok {d : PyData} (h : declD d = true) : ∃ ds, PrOk d ds := by
  unfold declD at h
  rw [Bool.and_eq_true, Bool.and_eq_true, Bool.and_eq_true] at h
  obtain ⟨ds, rfl⟩ := tag_tup (of_decide_eq_true h.1.1)
  exact ⟨ds, rfl, of_decide_eq_true h.1.2, h.2.1⟩
theorem name_str {d : PyData} (h : nameD d = true) : d = .str (strD d) ∧ (strD d).length ≤ 8 := by
  cases d with
  | str x =>
    refine ⟨rfl, ?_⟩
    have h' : (!decide (x = "null") && (decide (1 ≤ x.length) && decide (x.length ≤ 8)) && x.cps.toList.all sgOk) = true := h
    rw [Bool.and_eq_true, Bool.and_eq_true, Bool.and_eq_true] at h'
    exact of_decide_eq_true h'.1.2.2
  | _ => exact absurd h (by simp [nameD])
def declsF (fs : List FD) : List PyData := fs.flatMap fun f => f.p ++ letsD f.b
def declsD (fs : List FD) (ss : List PyData) : List PyData := declsF fs ++ letsD ss
theorem declsF_snoc (fs : List FD) (f : FD) : declsF (fs ++ [f]) = declsF fs ++ (f.p ++ letsD f.b) := by
  unfold declsF
  rw [List.flatMap_append]
  simp
theorem all_at {α : Type} {p : α → Bool} {xs : List α} {i : Nat} {x : α} (h : xs.all p = true) (e : xs[i]? = some x) : p x = true := List.all_eq_true.mp h x (List.mem_of_getElem? e)
theorem fn_le {f : FD} (h : fnD f = true) : f.p.length ≤ 4 ∧ f.b.length ≤ 12 ∧ nameD f.n = true ∧ f.p.all declD = true ∧ f.b.all stmtD = true := by
  unfold fnD stsD at h
  rw [Bool.and_eq_true, Bool.and_eq_true, Bool.and_eq_true, Bool.and_eq_true] at h
  exact ⟨of_decide_eq_true h.1.2.1, of_decide_eq_true h.2.1, h.1.1, h.1.2.2, h.2.2⟩
theorem lets_ok {ds : List PyData} (h : ds.all stmtD = true) : (letsD ds).all declD = true := by
  rw [List.all_eq_true] at h ⊢
  intro x hx
  unfold letsD at hx
  obtain ⟨d, hd, rfl⟩ := List.mem_map.mp hx
  obtain ⟨h1, h2⟩ := List.mem_filter.mp hd
  obtain ⟨_, o⟩ := st_ok (h d h1)
  exact (o.lt (of_decide_eq_true h2)).2
theorem declsF_le : ∀ {fs : List FD}, fs.all fnD = true → (declsF fs).length ≤ 16 * fs.length
  | [], _ => Nat.le_refl _
  | f :: fs, h => by
    rw [List.all_cons, Bool.and_eq_true] at h
    have h1 := fn_le h.1
    have h2 := declsF_le h.2
    have h3 := lets_len f.b
    unfold declsF at h2 ⊢
    rw [List.flatMap_cons, List.length_append, List.length_append, List.length_cons]
    omega
theorem declsF_ok {fs : List FD} (h : fs.all fnD = true) : (declsF fs).all declD = true := by
  rw [List.all_eq_true] at h ⊢
  intro x hx
  unfold declsF at hx
  obtain ⟨f, hf, hx⟩ := List.mem_flatMap.mp hx
  have h1 := fn_le (h f hf)
  rcases List.mem_append.mp hx with hx | hx
  · exact List.all_eq_true.mp h1.2.2.2.1 x hx
  · exact List.all_eq_true.mp (lets_ok h1.2.2.2.2) x hx
theorem decls_ok {fs : List FD} {ss : List PyData} (h : fs.all fnD = true) (k : ss.all stmtD = true) : (declsD fs ss).all declD = true := by
  unfold declsD
  rw [List.all_append, declsF_ok h, lets_ok k]
  rfl
theorem decls_le {fs : List FD} {ss : List PyData} (h : fs.all fnD = true) (h4 : fs.length ≤ 4) (h40 : ss.length ≤ 40) : (declsD fs ss).length ≤ 104 := by
  have h1 := declsF_le h
  have h2 := lets_len ss
  unfold declsD
  rw [List.length_append]
  omega
theorem a_extend {H : Hp} {Q : VK} {p b : Addr} {xs zs : List V} (h : H p = some (.lst xs)) (k : H b = some (.lst zs)) (hz : xs.length + zs.length ≤ 100000) (q : Q .non (upd H p (.lst (xs ++ zs)))) : rExtend (.ref p) [.ref b] H Q := ⟨p, b, xs, zs, rfl, rfl, h, k, sz_of hz, q⟩
def pLets (K : PySem.W.Frag) : Sp := fun vs H Q _ => ∃ S p ds, vs = [.ref p] ∧ Al S H ∧ Dl K (dl S H) p ds ∧ ds.all stmtD = true ∧ ∀ q ys H1, H q = none → Ex H H1 → H1 q = some (.lst ys) → DpAll K (dl S H1) ys (letsD ds) → Q (.ref q) H1
/-- the parts of a program -/
structure Pg (K : PySem.W.Frag) (C : Addr) (G : Hp) (pf ps : Addr) (fs : List FD) (ss : List PyData) : Prop where
  fx : ∃ xs, SqL K G pf xs ∧ FnAll K C G xs fs
  sx : Dl K G ps ss
  fo : fs.all fnD = true
  so : ss.all stmtD = true
  f4 : fs.length ≤ 4
  s40 : ss.length ≤ 40
theorem Pg.up {C : Addr} {G G' : Hp} {pf ps : Addr} {fs : List FD} {ss : List PyData} (h : Pg K C G pf ps fs ss) (e : Ex G G') : Pg K C G' pf ps fs ss := by
  obtain ⟨xs, h1, h2⟩ := h.fx
  exact ⟨⟨xs, ex_sl h1 e, h2.up e⟩, h.sx.up e, h.fo, h.so, h.f4, h.s40⟩
def pDecl (K : PySem.W.Frag) (C : Addr) : Sp := fun vs H Q _ => ∃ S pf ps fs ss, vs = [.ref pf, .ref ps] ∧ Al S H ∧ Pg K C (dl S H) pf ps fs ss ∧ ∀ q ys H1, H q = none → Ex H H1 → H1 q = some (.lst ys) → DpAll K (dl S H1) ys (declsD fs ss) → Q (.ref q) H1
def namesD (fs : List FD) (ss : List PyData) : List Str := (fs.map fun f => strD f.n) ++ (declsD fs ss).map fun d => strD (nthD d 0)
def kindsD (fs : List FD) (ss : List PyData) : List PyData := (declsD fs ss).map fun d => nthD d 1
def pNames (K : PySem.W.Frag) (C : Addr) : Sp := fun vs H Q _ => ∃ S pf ps fs ss, vs = [.ref pf, .ref ps] ∧ Al S H ∧ Pg K C (dl S H) pf ps fs ss ∧ ∀ q H1, H q = none → Ex H H1 → H1 q = some (.lst ((namesD fs ss).map V.str)) → Q (.ref q) H1
def pKinds (K : PySem.W.Frag) (C : Addr) : Sp := fun vs H Q _ => ∃ S pf ps fs ss, vs = [.ref pf, .ref ps] ∧ Al S H ∧ Pg K C (dl S H) pf ps fs ss ∧ ∀ q ys H1, H q = none → Ex H H1 → H1 q = some (.lst ys) → DpAll K (dl S H1) ys (kindsD fs ss) → Q (.ref q) H1
theorem dpa_two {G : Hp} {xs : List V} {ds : List PyData} (h : DpAll K G xs ds) (l : ds.length = 2) : ∃ u v, xs = [u, v] ∧ Dp K G u (nthD (.tuple ds) 0) ∧ Dp K G v (nthD (.tuple ds) 1) := by
  match ds, l, h with
  | [_, _], _, .cons h1 (.cons h2 .nil) => exact ⟨_, _, rfl, h1, h2⟩
def kindD (ds : List PyData) : Bool := ds.all typD || ds.all fun d => numD d 5
def pKind (K : PySem.W.Frag) : Sp := fun vs H Q _ => ∃ p ds, vs = [.ref p] ∧ Dl K H p ds ∧ RV1 (.bl (kindD ds)) H Q
abbrev Kv := List (Key × V)
def IntK (kvs : Kv) : Prop := ∀ k v, valV kvs k = some v → ∃ i, v = .int i
def fit1 (kvs : Kv) (d : PyData) : Bool := !decide (fwD d = "call") || decide ((valV kvs (Sum.inr (strD (nthD d 1)))).getD .non = .int ((itemsD (nthD d 2)).length : Nat))
def fitD (kvs : Kv) (ss : List PyData) : Bool := ss.all (fit1 kvs)
def putN (kvs : Kv) (f : FD) : Kv := putK kvs (Sum.inr (strD f.n)) (.int (f.p.length : Nat))
def fitF (kvs : Kv) : List FD → List PyData → Bool
  | [], ss => fitD kvs ss
  | f :: fs, ss => fitD kvs f.b && fitF (putN kvs f) fs ss
theorem putN_le (kvs : Kv) (f : FD) : (putN kvs f).length ≤ kvs.length + 1 := by
  unfold putN putK
  split
  · rw [List.length_map]
    exact Nat.le_succ _
  · rw [List.length_append]
    exact Nat.le_refl _
theorem IntK.put {kvs : Kv} (h : IntK kvs) (f : FD) : IntK (putN kvs f) := fun k v e => by
  unfold putN at e
  rw [valV_put] at e
  by_cases z : k = Sum.inr (strD f.n)
  · rw [if_pos z] at e
    exact ⟨_, (Option.some.inj e).symm⟩
  · rw [if_neg z] at e
    exact h k v e
theorem int_scal {kvs : Kv} (h : IntK kvs) (k : Key) (n : Int) : scal ((valV kvs k).getD .non) (.int n) = true := by
  cases e : valV kvs k with
  | none => rfl
  | some v =>
    obtain ⟨i, rfl⟩ := h k v e
    rfl
def pFit (K : PySem.W.Frag) : Sp := fun vs H Q _ => ∃ ps ss m kvs, vs = [.ref ps, .ref m] ∧ Dl K H ps ss ∧ ss.all stmtD = true ∧ H m = some (.dK kvs) ∧ IntK kvs ∧ RV1 (.bl (fitD kvs ss)) H Q
def pFits (K : PySem.W.Frag) (C : Addr) : Sp := fun vs H Q _ => ∃ pf ps fs ss, vs = [.ref pf, .ref ps] ∧ Pg K C H pf ps fs ss ∧ RV1 (.bl (fitF [] fs ss)) H Q
def GetD (ty : TE) (x : V) (σ : L2.St) (H : Hp) (Q : VK) : Prop := ∃ a, x = .ref a ∧ IsD H a ∧ ty σ H fun y H2 => ∃ o, DGet H2 a y o ∧ Q (o.getD .non) H2
theorem w_getD1 {σ : L2.St} {H : Hp} {td ty : TE} {Q : VK} (h : td σ H fun x Ha => GetD ty x σ Ha Q) : tDGet1 td ty σ H Q := h
theorem a_getD {σ : L2.St} {H : Hp} {ty : TE} {Q : VK} {m : Addr} {kvs : Kv} (e : H m = some (.dK kvs)) (h : ty σ H fun y H2 => ∃ o, DGet H2 m y o ∧ Q (o.getD .non) H2) : GetD ty (.ref m) σ H Q := ⟨m, rfl, .inl ⟨kvs, .inl e⟩, h⟩
def PutD (x y v : V) (H : Hp) (N : Hp → Prop) : Prop := ∃ a H4, x = .ref a ∧ DPut H a y v H4 ∧ N H4
theorem w_putD {σ : L2.St} {H : Hp} {td ty tv : TE} {D : Ends} (h : tv σ H fun v Ha => td σ Ha fun x Hb => ty σ Hb fun y Hc => PutD x y v Hc fun Hd => D.nx σ Hd) : sDPut td ty tv D σ H := h
theorem a_putD {H : Hp} {m : Addr} {kvs : Kv} {x : Str} {v : V} {N : Hp → Prop} (e : H m = some (.dK kvs)) (hl : kvs.length < 100000) (k : N (upd H m (.dK (putK kvs (Sum.inr x) v)))) : PutD (.ref m) (.str x) v H N := ⟨m, _, rfl, DPut.k (k := Sum.inr x) e (sz_lt hl), k⟩
theorem dl_nil (H : Hp) : dl [] H = H := by
  funext a
  exact if_neg (by simp)
def nodupD (ss : List Str) : Bool := decide ss.Nodup
def pDiff (K : PySem.W.Frag) : Sp := fun vs H Q _ => ∃ p ss, vs = [.ref p] ∧ SqL K H p (ss.map V.str) ∧ ss.length ≤ 200 ∧ (∀ s ∈ ss, s.length ≤ 8) ∧ RV1 (.bl (nodupD ss)) H Q
def progD (fs : List FD) (ss : List PyData) : Bool := decide (fs.length ≤ 4) && fs.all fnD && stsD 40 ss && (nodupD (namesD fs ss) && kindD (kindsD fs ss) && fitF [] fs ss)
def pIp (K : PySem.W.Frag) (C : Addr) : Sp := fun vs H Q _ => ∃ pf ps xs fs ss, vs = [.ref pf, .ref ps] ∧ SqL K H pf xs ∧ FnAll K C H xs fs ∧ fs.length ≤ 100000 ∧ Dl K H ps ss ∧ RV1 (.bl (progD fs ss)) H Q
def pRe (C : Addr) : Sp := fun vs H Q _ => ∃ a r, vs = [.ref a, .str r] ∧ H a = some (exo a C none) ∧ ∀ dx, H dx = none → dx ≠ a → Q .non (upd (upd H dx (exd dx [("reason", .str r)])) a (exo a C (some dx)))
def VeI (K : PySem.W.Frag) (vs : List V) (H : Hp) (Q : VK) : Prop := ∃ (a C : Addr) (ws : List V), vs = .ref a :: ws ∧ ws.length ≤ 1000 ∧ OexC K C ∧ H a = some (exo a C none) ∧ Q .non H
theorem w_veI {σ : L2.St} {H : Hp} {ta : TA} {Q : VK} (h : ta σ H fun vs Ha => VeI K vs Ha Q) : tVeI K ta σ H Q := h
def OstI (K : PySem.W.Frag) (f : Str) (x y : V) (H : Hp) (N : Hp → Prop) : Prop := ∃ a C : Addr, x = .ref a ∧ OexC K C ∧ PySem.W.findIn K (.ref C) f = some none ∧
  ((H a = some (exo a C none) ∧ ∀ dx, H dx = none → dx ≠ a → N (upd (upd H dx (exd dx [(f, y)])) a (exo a C (some dx)))) ∨
    ∃ (dx : Addr) (fs : List (Str × V)), H a = some (exo a C (some dx)) ∧ H dx = some (exd dx fs) ∧ fs.length ≤ 900 ∧ N (upd H dx (exd dx ((f, y) :: fs))))
theorem w_ostI {σ : L2.St} {H : Hp} {f : Str} {to te : TE} {D : Ends} (h : te σ H fun y Ha => to σ Ha fun x Hb => OstI K f x y Hb fun Hc => D.nx σ Hc) : tOst K f to te D σ H := h
def MkO (C : Addr) (sp : Sp) (vs : List V) (H : Hp) (Q : XK) : Prop := vs.length ≤ 1000 ∧ ∀ a, H a = none → sp (.ref a :: vs) (upd H a (exo a C none))
  (fun v H2 => v = .non ∧ ∃ (d : Addr) (fs : List (Str × V)), H2 a = some (exo a C (some d)) ∧ H2 d = some (exd d fs) ∧ H d = none ∧ Q (.ref C) (some d) (upd (del H2 a) d (.xd fs))) (fun _ _ _ => False)
theorem w_mkO {σ : L2.St} {H : Hp} {C : Addr} {sp : Sp} {ta : TA} {Q : XK} (h : ta σ H fun vs Ha => MkO C sp vs Ha Q) : tMkO C sp [] ta σ H Q := by
  have e : (fun vs Ha => MkO C sp vs Ha Q) = fun (vs : List V) H1 => vs.length ≤ 1000 ∧ ∀ a, H1 a = none → sp (.ref a :: (vs ++ [])) (upd H1 a (exo a C none))
      (fun v H2 => v = .non ∧ ∃ (d : Addr) (fs : List (Str × V)), H2 a = some (exo a C (some d)) ∧ H2 d = some (exd d fs) ∧ H1 d = none ∧ Q (.ref C) (some d) (upd (del H2 a) d (.xd fs))) (fun _ _ _ => False) := by
    funext vs Ha
    rw [List.append_nil]
    rfl
  show ta σ H fun vs H1 => vs.length ≤ 1000 ∧ ∀ a, H1 a = none → sp (.ref a :: (vs ++ [])) (upd H1 a (exo a C none))
      (fun v H2 => v = .non ∧ ∃ (d : Addr) (fs : List (Str × V)), H2 a = some (exo a C (some d)) ∧ H2 d = some (exd d fs) ∧ H1 d = none ∧ Q (.ref C) (some d) (upd (del H2 a) d (.xd fs))) (fun _ _ _ => False)
  rw [← e]
  exact h
/-- what a made error leaves behind -/
theorem mko_re {C : Addr} {r : Str} {H : Hp} {Q : XK} (k : ∀ d H1, H d = none → Ex H H1 → H1 d = some (.xd [("reason", .str r)]) → Q (.ref C) (some d) H1) : MkO C (pRe C) [.str r] H Q := by
  refine ⟨(show 1 ≤ 1000 by decide), fun a na => ⟨a, r, rfl, upd_same, fun dx n ne => ⟨rfl, dx, [("reason", .str r)], upd_same, by rw [upd_ne ne, upd_same], by rw [upd_ne ne] at n; exact n, ?_⟩⟩⟩
  have nd : H dx = none := by rw [upd_ne ne] at n; exact n
  refine k dx _ nd (fun b o e => ?_) upd_same
  have b1 : b ≠ dx := ne_of_none e nd
  have b2 : b ≠ a := ne_of_none e na
  rw [upd_ne b1, del_ne b2, upd_ne b2, upd_ne b1, upd_ne b2]
  exact e
def pPi (K : PySem.W.Frag) (C CF CE : Addr) : Sp := fun vs H Q E => ∃ S a dx pf ps xs fs ss, vs = [.ref a, .ref pf, .ref ps] ∧ Al S H ∧ a ∈ S ∧ H a = some (.ins C dx []) ∧ SqL K (dl S H) pf xs ∧ FnAll K CF (dl S H) xs fs ∧ fs.length ≤ 100000 ∧ Dl K (dl S H) ps ss ∧
  (progD fs ss = true → ∀ q1 q2 ys1 ys2 H1, Ks [a] H H1 → H q1 = none → H q2 = none → H1 a = some (.ins C dx (pgF q1 q2)) → H1 q1 = some (.lst ys1) → FnAll K CF (dl S H1) ys1 fs → (∀ v ∈ ys1, NewF CF H H1 v) → H1 q2 = some (.lst ys2) → DpAll K (dl S H1) ys2 ss → Q .non H1) ∧
  (progD fs ss = false → ∀ d H1, Ks [a] H H1 → H d = none → H1 d = some (.xd [("reason", .str "no program")]) → E (.ref CE) (some d) H1)
theorem sts_le {m : Nat} {ss : List PyData} (h : stsD m ss = true) : ss.length ≤ m ∧ ss.all stmtD = true := by
  unfold stsD at h
  rw [Bool.and_eq_true] at h
  exact ⟨of_decide_eq_true h.1, h.2⟩
theorem FnAll.ref {C : Addr} {G : Hp} {xs : List V} {fs : List FD} (h : FnAll K C G xs fs) : True := trivial
theorem kinds_sm {fs : List FD} {ss : List PyData} (h : smAll (declsD fs ss) = true) (o : (declsD fs ss).all declD = true) : smAll (kindsD fs ss) = true := by
  unfold kindsD
  revert h o
  induction declsD fs ss with
  | nil => intro _ _; rfl
  | cons d ds ih =>
    intro h o
    have h' := (Bool.and_eq_true _ _ ▸ h : smD d = true ∧ smAll ds = true)
    rw [List.all_cons, Bool.and_eq_true] at o
    obtain ⟨es, p⟩ := pr_ok o.1
    have h2 : smD d = true := h'.1
    rw [p.e] at h2
    have h3 := (Bool.and_eq_true _ _ ▸ h2 : decide (es.length ≤ 100000) = true ∧ smAll es = true)
    show (smD (nthD d 1) && smAll (ds.map fun d => nthD d 1)) = true
    rw [ih h'.2 o.2, p.e, sm_at h3.2 (nthD_get (by rw [p.l]; decide))]
    rfl
theorem sm_app : ∀ {xs ys : List PyData}, smAll xs = true → smAll ys = true → smAll (xs ++ ys) = true
  | [], _, _, h => h
  | a :: as, ys, h, g => by
    have h' := (Bool.and_eq_true _ _ ▸ h : smD a = true ∧ smAll as = true)
    show (smD a && smAll (as ++ ys)) = true
    rw [h'.1, sm_app h'.2 g]
    rfl
theorem sm_lets : ∀ {ss : List PyData}, smAll ss = true → ss.all stmtD = true → smAll (letsD ss) = true
  | [], _, _ => rfl
  | d :: ds, h, o => by
    have h' := (Bool.and_eq_true _ _ ▸ h : smD d = true ∧ smAll ds = true)
    rw [List.all_cons, Bool.and_eq_true] at o
    have ih := sm_lets h'.2 o.2
    unfold letsD at ih ⊢
    by_cases c : fwD d = "let"
    · rw [List.filter_cons_of_pos (by simpa using c), List.map_cons]
      obtain ⟨es, p⟩ := st_ok o.1
      have h2 : smD d = true := h'.1
      rw [p.e] at h2
      have h3 := (Bool.and_eq_true _ _ ▸ h2 : decide (es.length ≤ 100000) = true ∧ smAll es = true)
      show (smD (cut13 d) && smAll _) = true
      rw [ih, p.e]
      have : smD (cut13 (.tuple es)) = true := sm_tup (sm_take 2 (sm_drop 1 h3.2)) (by rw [List.length_take]; omega)
      rw [this]
      rfl
    · rw [List.filter_cons_of_neg (by simpa using c)]
      exact ih
theorem fn_sm {C : Addr} {G : Hp} : ∀ {xs : List V} {fs : List FD}, FnAll K C G xs fs → fs.all fnD = true → smAll (declsF fs) = true
  | _, _, .nil, _ => rfl
  | _, _, .cons (f := f) (fs := fs) h t, o => by
    rw [List.all_cons, Bool.and_eq_true] at o
    obtain ⟨_, _, _, _, _, _, hp, hb⟩ := h.ex
    have ih := fn_sm t o.2
    unfold declsF at ih ⊢
    rw [List.flatMap_cons]
    exact sm_app (sm_app hp.sm (sm_lets hb.sm (fn_le o.1).2.2.2.2)) ih
theorem names_le {fs : List FD} {ss : List PyData} (h : fs.all fnD = true) (h4 : fs.length ≤ 4) (h40 : ss.length ≤ 40) : (namesD fs ss).length ≤ 200 := by
  have h1 := decls_le h h4 h40
  unfold namesD
  rw [List.length_append, List.length_map, List.length_map]
  omega
theorem names_s {fs : List FD} {ss : List PyData} (h : fs.all fnD = true) (k : ss.all stmtD = true) : ∀ s ∈ namesD fs ss, s.length ≤ 8 := fun s hs => by
  unfold namesD at hs
  rcases List.mem_append.mp hs with hs | hs
  · obtain ⟨f, hf, rfl⟩ := List.mem_map.mp hs
    exact (name_str (fn_le (List.all_eq_true.mp h f hf)).2.2.1).2
  · obtain ⟨d, hd, rfl⟩ := List.mem_map.mp hs
    obtain ⟨es, o⟩ := pr_ok (List.all_eq_true.mp (decls_ok h k) d hd)
    rw [o.e]
    exact (name_str o.n).2
end
end Ver
set_option Elab.async false
set_option linter.all false
set_option maxRecDepth 100000
set_option maxHeartbeats 4000000
namespace Ver
open PySem PySem.Spec PyProof.Rows L2 Evl
inductive Src | num (n : Int) | null | val (x : Str) (k : Nat) | adr (x : Str) (k : Nat)
inductive Stm | lt (x : Str) (T : List R) (s : Src) | put (x : Str) (k : Nat) (s : Src) | call (f : Str) (ss : List Src)
def plD (x : Str) (k : Nat) : PyData := .tuple [.str x, .int (k : Int)]
def sD : Src → PyData
  | .num n => .tuple [.str "number", .int n]
  | .null => .tuple [.str "null"]
  | .val x k => .tuple [.str "value", plD x k]
  | .adr x k => .tuple [.str "address", plD x k]
def stD : Stm → PyData
  | .lt x T s => .tuple [.str "let", .str x, ru T, sD s]
  | .put x k s => .tuple [.str "put", plD x k, sD s]
  | .call f ss => .tuple [.str "call", .str f, .list (ss.map sD)]
structure TF where
  n : Str
  p : List (Str × List R)
  b : List Stm
def pD (q : Str × List R) : PyData := .tuple [.str q.1, ru q.2]
def TF.fd (f : TF) : FD := ⟨.str f.n, f.p.map pD, f.b.map stD⟩
def nmO (x : Str) : Prop := nameD (.str x) = true
def sO : Src → Prop
  | .num n => 0 ≤ n ∧ n ≤ 1000
  | .null => True
  | .val x k => nmO x ∧ k ≤ 5
  | .adr x k => nmO x ∧ k ≤ 5
def tyO (T : List R) : Prop := 1 ≤ T.length ∧ T.length ≤ 6
def stO : Stm → Prop
  | .lt x T s => nmO x ∧ tyO T ∧ sO s
  | .put x k s => nmO x ∧ k ≤ 5 ∧ sO s
  | .call f ss => nmO f ∧ ss.length ≤ 4 ∧ ∀ s ∈ ss, sO s
theorem and_t {a b : Bool} (h : a = true) (k : b = true) : (a && b) = true := by rw [h, k]; rfl
theorem pl_ok {x : Str} {k : Nat} (h : nmO x) (hk : k ≤ 5) : placeD (plD x k) = true := by
  have e : numD (.int (k : Int)) 5 = true := and_t (decide_eq_true (Int.natCast_nonneg k)) (decide_eq_true (by omega))
  show (decide ("tuple" = "tuple") && decide (2 = 2) && (nameD (.str x) && numD (.int (k : Int)) 5)) = true
  rw [e, show nameD (.str x) = true from h]
  rfl
theorem src_ok {s : Src} (h : sO s) : srcD (sD s) = true := by
  cases s with
  | num n =>
    have e : fwD (sD (.num n)) = "number" := fw_str (by simp) rfl
    unfold srcD
    rw [e, if_neg (by decide), if_pos rfl]
    show (decide (2 = 2) && numD (.int n) 1000) = true
    have : numD (.int n) 1000 = true := and_t (decide_eq_true h.1) (decide_eq_true h.2)
    rw [this]
    rfl
  | null =>
    have e : fwD (sD .null) = "null" := fw_str (by simp) rfl
    unfold srcD
    rw [e, if_pos rfl]
    rfl
  | val x k =>
    have e : fwD (sD (.val x k)) = "value" := fw_str (by simp) rfl
    unfold srcD
    rw [e, if_neg (by decide), if_neg (by decide)]
    show (inV (.str "value") [.str "value", .str "address"] && (decide (2 = 2) && placeD (plD x k))) = true
    rw [pl_ok h.1 h.2]
    rfl
  | adr x k =>
    have e : fwD (sD (.adr x k)) = "address" := fw_str (by simp) rfl
    unfold srcD
    rw [e, if_neg (by decide), if_neg (by decide)]
    show (inV (.str "address") [.str "value", .str "address"] && (decide (2 = 2) && placeD (plD x k))) = true
    rw [pl_ok h.1 h.2]
    rfl
theorem ir_R (x : R) : irD (.str x.s) = true := by cases x <;> decide
theorem ru_all (T : List R) : (T.map fun x => PyData.str x.s).all irD = true := by
  rw [List.all_map, List.all_eq_true]
  exact fun x _ => ir_R x
theorem typ_ok {T : List R} (h : tyO T) : typD (ru T) = true := by
  show (vtD (T.map fun x => PyData.str x.s) && decide (0 < (T.map fun x => PyData.str x.s).length)) = true
  unfold vtD
  rw [List.length_map, ru_all, decide_eq_true h.2, decide_eq_true (show 0 < T.length from h.1)]
  rfl
theorem pd_ok {q : Str × List R} (h : nmO q.1) (t : tyO q.2) : declD (pD q) = true := by
  show (decide ("tuple" = "tuple") && decide (2 = 2) && (nameD (.str q.1) && (typD (ru q.2) || numD (ru q.2) 5))) = true
  rw [show nameD (.str q.1) = true from h, typ_ok t]
  rfl
theorem st_okD {s : Stm} (h : stO s) : stmtD (stD s) = true := by
  cases s with
  | lt x T s =>
    have e : fwD (stD (.lt x T s)) = "let" := fw_str (by simp) rfl
    unfold stmtD
    rw [e, if_pos rfl]
    show (decide (4 = 4) && (declD (pD (x, T)) && srcD (sD s))) = true
    rw [pd_ok h.1 h.2.1, src_ok h.2.2]
    rfl
  | put x k s =>
    have e : fwD (stD (.put x k s)) = "put" := fw_str (by simp) rfl
    unfold stmtD
    rw [e, if_neg (by decide), if_pos rfl]
    show (decide (3 = 3) && (placeD (plD x k) && srcD (sD s))) = true
    rw [pl_ok h.1 h.2.1, src_ok h.2.2]
    rfl
  | call f ss =>
    have e : fwD (stD (.call f ss)) = "call" := fw_str (by simp) rfl
    unfold stmtD
    rw [e, if_neg (by decide), if_neg (by decide)]
    show (decide ("call" = "call") && (decide (3 = 3) && (nameD (.str f) && (decide ("list" = "list") && (ss.map sD).all srcD)))) = true
    have a : (ss.map sD).all srcD = true := by
      rw [List.all_map, List.all_eq_true]
      exact fun s hs => src_ok (h.2.2 s hs)
    rw [show nameD (.str f) = true from h.1, a]
    rfl
def letP : Stm → Option (Str × List R)
  | .lt x T _ => some (x, T)
  | _ => none
def lets (b : List Stm) : List (Str × List R) := b.filterMap letP
theorem lets_app (a b : List Stm) : lets (a ++ b) = lets a ++ lets b := List.filterMap_append
theorem letsD_eq : ∀ b : List Stm, letsD (b.map stD) = (lets b).map pD
  | [] => rfl
  | s :: b => by
    have ih := letsD_eq b
    unfold letsD lets at ih ⊢
    cases s with
    | lt x T s =>
      have e : fwD (stD (.lt x T s)) = "let" := fw_str (by simp) rfl
      rw [List.map_cons, List.filter_cons_of_pos (by simpa using e), List.map_cons, ih]
      rfl
    | put x k s =>
      have e : fwD (stD (.put x k s)) = "put" := fw_str (by simp) rfl
      rw [List.map_cons, List.filter_cons_of_neg (by rw [e]; decide), ih]
      rfl
    | call f ss =>
      have e : fwD (stD (.call f ss)) = "call" := fw_str (by simp) rfl
      rw [List.map_cons, List.filter_cons_of_neg (by rw [e]; decide), ih]
      rfl
def declF (fs : List TF) : List (Str × List R) := fs.flatMap fun f => f.p ++ lets f.b
def decl (fs : List TF) (ss : List Stm) : List (Str × List R) := declF fs ++ lets ss
theorem declF_snoc (fs : List TF) (f : TF) : declF (fs ++ [f]) = declF fs ++ (f.p ++ lets f.b) := by
  unfold declF
  rw [List.flatMap_append]
  simp
theorem declsF_eq : ∀ fs : List TF, declsF (fs.map TF.fd) = (declF fs).map pD
  | [] => rfl
  | f :: fs => by
    have ih := declsF_eq fs
    unfold declsF declF at ih ⊢
    rw [List.map_cons, List.flatMap_cons, List.flatMap_cons, ih, List.map_append, List.map_append]
    show f.p.map pD ++ letsD (f.b.map stD) ++ _ = _
    rw [letsD_eq]
theorem declsD_eq (fs : List TF) (ss : List Stm) : declsD (fs.map TF.fd) (ss.map stD) = (decl fs ss).map pD := by
  unfold declsD decl
  rw [declsF_eq, letsD_eq, List.map_append]
theorem namesD_eq (fs : List TF) (ss : List Stm) : namesD (fs.map TF.fd) (ss.map stD) = fs.map TF.n ++ (decl fs ss).map Prod.fst := by
  unfold namesD
  rw [declsD_eq, List.map_map, List.map_map]
  rfl
theorem kindsD_eq (fs : List TF) (ss : List Stm) : kindsD (fs.map TF.fd) (ss.map stD) = (decl fs ss).map fun q => ru q.2 := by
  unfold kindsD
  rw [declsD_eq, List.map_map]
  rfl
/-- a call's function is there, and it has as many sources -/
def cf (fs : List TF) : Stm → Prop
  | .call f ss => ∃ g ∈ fs, g.n = f ∧ ss.length = g.p.length
  | _ => True
def Fit : List TF → List TF → List Stm → Prop
  | d, [], ss => ∀ s ∈ ss, cf d s
  | d, f :: r, ss => (∀ s ∈ f.b, cf d s) ∧ Fit (d ++ [f]) r ss
theorem fit1_ok {kvs : Kv} {d : List TF} {s : Stm} (h : ∀ g ∈ d, valV kvs (Sum.inr g.n) = some (.int (g.p.length : Nat))) (c : cf d s) : fit1 kvs (stD s) = true := by
  unfold fit1
  cases s with
  | lt x T s =>
    rw [show fwD (stD (.lt x T s)) = "let" from fw_str (by simp) rfl]
    rfl
  | put x k s =>
    rw [show fwD (stD (.put x k s)) = "put" from fw_str (by simp) rfl]
    rfl
  | call f ss =>
    obtain ⟨g, hg, rfl, e⟩ := c
    have e1 : decide ((valV kvs (Sum.inr (strD (nthD (stD (.call g.n ss)) 1)))).getD .non = .int ((itemsD (nthD (stD (.call g.n ss)) 2)).length : Nat)) = true := by
      apply decide_eq_true
      show (valV kvs (Sum.inr g.n)).getD .non = .int ((ss.map sD).length : Nat)
      rw [h g hg, List.length_map, e]
      rfl
    rw [e1, Bool.or_true]
theorem fit_ok : ∀ (r d : List TF) (ss : List Stm) (kvs : Kv), (∀ g ∈ d, valV kvs (Sum.inr g.n) = some (.int (g.p.length : Nat))) → ((d ++ r).map TF.n).Nodup → Fit d r ss → fitF kvs (r.map TF.fd) (ss.map stD) = true
  | [], d, ss, kvs, h, _, c => by
    show fitD kvs (ss.map stD) = true
    unfold fitD
    rw [List.all_map, List.all_eq_true]
    exact fun s hs => fit1_ok h (c s hs)
  | f :: r, d, ss, kvs, h, nd, c => by
    show (fitD kvs (f.b.map stD) && fitF (putN kvs f.fd) (r.map TF.fd) (ss.map stD)) = true
    refine and_t ?_ (fit_ok r (d ++ [f]) ss _ ?_ (by rw [List.append_assoc]; exact nd) c.2)
    · unfold fitD
      rw [List.all_map, List.all_eq_true]
      exact fun s hs => fit1_ok h (c.1 s hs)
    · intro g hg
      unfold putN
      rw [valV_put]
      show (if (Sum.inr g.n : Key) = Sum.inr f.n then some (V.int ((f.p.map pD).length : Nat)) else valV kvs (Sum.inr g.n)) = _
      rcases List.mem_append.mp hg with hg | hg
      · have ne : g.n ≠ f.n := fun z => by
          rw [List.map_append, List.map_cons] at nd
          have := (List.nodup_append.mp nd).2.2 g.n (List.mem_map_of_mem hg) f.n (List.mem_cons_self ..)
          exact this z
        rw [if_neg (fun z => ne (Sum.inr.inj z))]
        exact h g hg
      · rw [List.mem_singleton] at hg
        subst hg
        rw [if_pos rfl, List.length_map]
structure FOk (f : TF) : Prop where
  n : nmO f.n
  p4 : f.p.length ≤ 4
  po : ∀ q ∈ f.p, nmO q.1 ∧ tyO q.2
  b12 : f.b.length ≤ 12
  bo : ∀ s ∈ f.b, stO s
structure POk (fs : List TF) (ss : List Stm) : Prop where
  f4 : fs.length ≤ 4
  fo : ∀ f ∈ fs, FOk f
  s40 : ss.length ≤ 40
  so : ∀ s ∈ ss, stO s
  nd : (fs.map TF.n ++ (decl fs ss).map Prod.fst).Nodup
  ft : Fit [] fs ss
theorem lets_tyO {b : List Stm} (h : ∀ s ∈ b, stO s) : ∀ q ∈ lets b, nmO q.1 ∧ tyO q.2 := fun q hq => by
  obtain ⟨s, hs, e⟩ := List.mem_filterMap.mp hq
  cases s with
  | lt x T s =>
    cases Option.some.inj e
    exact ⟨(h _ hs).1, (h _ hs).2.1⟩
  | put x k s => cases e
  | call f ss => cases e
theorem fn_okD {f : TF} (h : FOk f) : fnD f.fd = true := by
  unfold fnD stsD
  refine and_t (and_t h.n (and_t (decide_eq_true ?_) ?_)) (and_t (decide_eq_true ?_) ?_)
  · show (f.p.map pD).length ≤ 4
    rw [List.length_map]
    exact h.p4
  · show (f.p.map pD).all declD = true
    rw [List.all_map, List.all_eq_true]
    exact fun q hq => pd_ok (h.po q hq).1 (h.po q hq).2
  · show (f.b.map stD).length ≤ 12
    rw [List.length_map]
    exact h.b12
  · show (f.b.map stD).all stmtD = true
    rw [List.all_map, List.all_eq_true]
    exact fun q hq => st_okD (h.bo q hq)
theorem decl_tyO {fs : List TF} {ss : List Stm} (h : POk fs ss) : ∀ q ∈ decl fs ss, nmO q.1 ∧ tyO q.2 := fun q hq => by
  rcases List.mem_append.mp hq with hq | hq
  · obtain ⟨f, hf, hq⟩ := List.mem_flatMap.mp hq
    rcases List.mem_append.mp hq with hq | hq
    · exact (h.fo f hf).po q hq
    · exact lets_tyO (h.fo f hf).bo q hq
  · exact lets_tyO h.so q hq
theorem prog_ok {fs : List TF} {ss : List Stm} (h : POk fs ss) : progD (fs.map TF.fd) (ss.map stD) = true := by
  unfold progD stsD
  refine and_t (and_t (and_t (decide_eq_true ?_) ?_) (and_t (decide_eq_true ?_) ?_)) (and_t (and_t ?_ ?_) ?_)
  · rw [List.length_map]
    exact h.f4
  · rw [List.all_map, List.all_eq_true]
    exact fun q hq => fn_okD (h.fo q hq)
  · rw [List.length_map]
    exact h.s40
  · rw [List.all_map, List.all_eq_true]
    exact fun q hq => st_okD (h.so q hq)
  · rw [namesD_eq]
    exact decide_eq_true h.nd
  · rw [kindsD_eq]
    unfold kindD
    rw [show ((decl fs ss).map fun q => ru q.2).all typD = true from by
      rw [List.all_map, List.all_eq_true]
      exact fun q hq => typ_ok (decl_tyO h q hq).2]
    rfl
  · refine fit_ok fs [] ss [] (fun g hg => by cases hg) ?_ h.ft
    rw [List.nil_append]
    exact (List.nodup_append.mp h.nd).1
def tfD (f : TF) : PyData := .list [.str f.n, .list (f.p.map pD), .list (f.b.map stD)]
abbrev Env := Str → Option (List R)
def Env.put (e : Env) (x : Str) (T : List R) : Env := fun y => if y = x then some T else e y
def envS (e : Env) : Stm → Env
  | .lt x T _ => e.put x T
  | _ => e
def e0 : Env := fun _ => none
def envP (e : Env) (ps : List (Str × List R)) : Env := ps.foldl (fun e q => e.put q.1 q.2) e
/-- a dict of types -/
structure TyD (K : PySem.W.Frag) (S : List Addr) (H : Hp) (pt : Addr) (e : Env) : Prop where
  ex : ∃ kvs : Kv, H pt = some (.dK kvs) ∧ kvs.length ≤ 1000 ∧ ∀ x, (e x = none → valV kvs (Sum.inr x) = none) ∧ ∀ T, e x = some T → ∃ a, valV kvs (Sum.inr x) = some (.ref a) ∧ SqT K (dl S H) a (tv T)
end Ver
set_option Elab.async false
set_option linter.all false
set_option maxRecDepth 100000
set_option maxHeartbeats 4000000
namespace Ver
open PySem PySem.Spec PyProof.Rows L2 Evl
def GetI (x y : V) (H : Hp) (Q : VK) : Prop := ∃ a v, x = .ref a ∧ DGet H a y (some v) ∧ Q v H
def MemD (neg : Bool) (y x : V) (H : Hp) (Q : VK) : Prop := ∃ a o, x = .ref a ∧ DGet H a y o ∧ Q (.bl (if neg then !o.isSome else o.isSome)) H
section
variable {σ : L2.St} {H : Hp} {Q : VK} {td ty : TE} {a : Addr} {kvs : Kv} {x : Str} {v : V}
theorem w_dget (h : td σ H fun x Ha => ty σ Ha fun y Hb => GetI x y Hb Q) : tDGet td ty σ H Q := h
theorem w_din (h : ty σ H fun y Ha => td σ Ha fun x Hb => MemD false y x Hb Q) : tDIn ty td σ H Q := h
theorem w_dnin (h : ty σ H fun y Ha => td σ Ha fun x Hb => MemD true y x Hb Q) : tDNotIn ty td σ H Q := h
theorem a_dget (e : H a = some (.dK kvs)) (hv : valV kvs (Sum.inr x) = some v) (k : Q v H) : GetI (.ref a) (.str x) H Q := ⟨a, v, rfl, hv ▸ DGet.k (k := Sum.inr x) e, k⟩
end
/-- the first item of a list is taken out -/
theorem a_pop0 {H : Hp} {Q : VK} {l : Addr} {y : V} {xs : List V} (h : H l = some (.lst (y :: xs))) (k : Q y (upd H l (.lst xs))) : rPopAt (.ref l) [.int 0] H Q :=
  ⟨l, y :: xs, 0, 0, y, rfl, rfl, h, by decide, by decide, by
    have := (ixN_seq (ixN_nat (n := (y :: xs).length) (j := 0) (by simp))).1
    exact this, rfl, k⟩
def qMin : List V → Hp → VK → Prop := fun xs H Q => ∃ i j, xs = [.int i, .int j] ∧ Q (.int (if j < i then j else i)) H
theorem minK {X : Cx} (hc : X.calm = true := by rfl) : CallR X (.builtin "min") qMin := call_min2 hc
theorem w_iEn {K : PySem.W.Frag} {σ : L2.St} {H : Hp} {a : TA} {N : It → Hp → Prop} (h : a σ H fun vs Ha => ∃ a xs, vs = [.ref a] ∧ SqL K Ha a xs ∧ N (Ite K a) Ha) : iEnum K a σ H N := h
theorem w_iZp {K : PySem.W.Frag} {σ : L2.St} {H : Hp} {a : TA} {N : It → Hp → Prop} (h : a σ H fun vs Ha => ∃ a b xs ys, vs = [.ref a, .ref b] ∧ SqL K Ha a xs ∧ SqL K Ha b ys ∧ N (Itz K a b) Ha) : iZip K a σ H N := h
theorem enK (K : PySem.W.Frag) {X : Cx} {e : Expr} {ta : TA} {p pos tpos : Pos} {elts : List Expr} {kk : Nat} (hg : Gl X "enumerate") (hm : X.mg "enumerate" = none) (ha : PA X [e] ta) (hs : starEach [e] X.env = [(false, eval e X.env)] := by rfl) (h : X.K = K := by rfl) :
    PI X (.Tuple elts kk tpos) (.Call (.Name "enumerate" p) [e] [] pos) (iEnum K ta) := by subst h; exact pi_enum hg hm ha hs
section
variable {K : PySem.W.Frag} {σ : L2.St} {H : Hp} {g : TG} {ts : TS} {D : Ends} {Q : VK} {p q : Addr} {xs ys : List V}
theorem lp_enum (P : Nat → L2.St → Hp → Prop) (h0 : P 0 σ H) (hl : ∀ k s h, k ≤ xs.length → P k s h → SqL K h p xs)
    (hs : ∀ k x s h T, xs[k]? = some x → P k s h → h T = none → g (.ref T) s (upd h T (.tup [.int (k : Nat), x])) fun s2 h2 => ts { D with nx := P (k + 1), ct := P (k + 1), bk := D.nx } s2 h2)
    (hd : ∀ s h, P xs.length s h → D.nx s h) : LoopG (Ite K p) g ts D σ H :=
  for_it (walk_enum (xs := xs)) P h0 (fun i s h hi c => hl i s h hi c) (fun i x s h h' hi c y => by
    obtain ⟨T, u, v, rfl, n, rfl, e1, e2⟩ := y
    cases Option.some.inj e1
    exact hs i v s h T e2 c n) hd
def DCompG (J : It) (g : TG) (t : TT) (tk tv : TE) (vs : List Nat) (σ : L2.St) (H : Hp) (Q : VK) : Prop := tDc (fun _ h R => R J h) g t tk tv vs σ H Q
theorem w_dc {wi : TI} {t : TT} {tk tv : TE} {vs : List Nat} (h : wi σ H fun J Ha => DCompG J g t tk tv vs σ Ha Q) : tDc wi g t tk tv vs σ H Q := h
end
theorem tv_drop (T : List R) (n : Nat) : (tv T).drop n = tv (T.drop n) := (List.map_drop).symm
section
variable {K : PySem.W.Frag} {S : List Addr} {H H1 : Hp} {pt : Addr} {e : Env}
theorem TyD.ex' (h : TyD K S H pt e) (x1 : Ex H H1) : TyD K S H1 pt e := by
  obtain ⟨kvs, h1, h2, h3⟩ := h.ex
  exact ⟨kvs, x1 _ _ h1, h2, fun x => ⟨(h3 x).1, fun T t => by
    obtain ⟨a, g1, g2⟩ := (h3 x).2 T t
    exact ⟨a, g1, ex_st g2 (dl_ex x1)⟩⟩⟩
theorem TyD.ks {M : List Addr} (h : TyD K S H pt e) (k : Ks M H H1) (hm : ∀ a ∈ M, a ∈ S) (hp : pt ∉ M) : TyD K S H1 pt e := by
  obtain ⟨kvs, h1, h2, h3⟩ := h.ex
  exact ⟨kvs, k _ _ hp h1, h2, fun x => ⟨(h3 x).1, fun T t => by
    obtain ⟨a, g1, g2⟩ := (h3 x).2 T t
    exact ⟨a, g1, ex_st g2 (dl_ks (k.mono hm))⟩⟩⟩
theorem TyD.grow {p : Addr} (h : TyD K S H pt e) (n : H p = none) (x1 : Ex H H1) : TyD K (p :: S) H1 pt e := by
  obtain ⟨kvs, h1, h2, h3⟩ := h.ex
  exact ⟨kvs, x1 _ _ h1, h2, fun x => ⟨(h3 x).1, fun T t => by
    obtain ⟨a, g1, g2⟩ := (h3 x).2 T t
    exact ⟨a, g1, ex_st g2 (dl_new n x1)⟩⟩⟩
theorem TyD.sub {S' : List Addr} (h : TyD K S H pt e) (m : ∀ a ∈ S', a ∈ S) : TyD K S' H pt e := by
  obtain ⟨kvs, h1, h2, h3⟩ := h.ex
  exact ⟨kvs, h1, h2, fun x => ⟨(h3 x).1, fun T t => by
    obtain ⟨a, g1, g2⟩ := (h3 x).2 T t
    exact ⟨a, g1, ex_st g2 (dl_sub m)⟩⟩⟩
theorem TyD.get (h : TyD K S H pt e) {x : Str} {T : List R} (t : e x = some T) {Q : VK} (k : ∀ a, SqT K (dl S H) a (tv T) → Q (.ref a) H) : GetI (.ref pt) (.str x) H Q := by
  obtain ⟨kvs, h1, h2, h3⟩ := h.ex
  obtain ⟨a, g1, g2⟩ := (h3 x).2 T t
  exact a_dget h1 g1 (k a g2)
theorem putK_le (kvs : Kv) (k : Key) (v : V) : (putK kvs k v).length ≤ kvs.length + 1 := by
  unfold putK
  split
  · rw [List.length_map]
    exact Nat.le_succ _
  · rw [List.length_append]
    exact Nat.le_refl _
def TyN (K : PySem.W.Frag) (S : List Addr) (H : Hp) (pt : Addr) (e : Env) (n : Nat) : Prop := ∃ kvs : Kv, H pt = some (.dK kvs) ∧ kvs.length ≤ n ∧ ∀ x, (e x = none → valV kvs (Sum.inr x) = none) ∧ ∀ T, e x = some T → ∃ a, valV kvs (Sum.inr x) = some (.ref a) ∧ SqT K (dl S H) a (tv T)
theorem TyN.d {n : Nat} (h : TyN K S H pt e n) (l : n ≤ 1000) : TyD K S H pt e := by
  obtain ⟨kvs, h1, h2, h3⟩ := h
  exact ⟨kvs, h1, Nat.le_trans h2 l, h3⟩
theorem TyN.ks {n : Nat} {M : List Addr} (h : TyN K S H pt e n) (k : Ks M H H1) (hm : ∀ a ∈ M, a ∈ S) (hp : pt ∉ M) : TyN K S H1 pt e n := by
  obtain ⟨kvs, h1, h2, h3⟩ := h
  exact ⟨kvs, k _ _ hp h1, h2, fun x => ⟨(h3 x).1, fun T t => by
    obtain ⟨a, g1, g2⟩ := (h3 x).2 T t
    exact ⟨a, g1, ex_st g2 (dl_ks (k.mono hm))⟩⟩⟩
theorem TyN.ex' {n : Nat} (h : TyN K S H pt e n) (x1 : Ex H H1) : TyN K S H1 pt e n := h.ks (M := []) (Ks.of x1) (fun _ z => by cases z) (by simp)
theorem TyN.grow {n : Nat} {p : Addr} (h : TyN K S H pt e n) (q : H p = none) (x1 : Ex H H1) : TyN K (p :: S) H1 pt e n := by
  obtain ⟨kvs, h1, h2, h3⟩ := h
  exact ⟨kvs, x1 _ _ h1, h2, fun x => ⟨(h3 x).1, fun T t => by
    obtain ⟨a, g1, g2⟩ := (h3 x).2 T t
    exact ⟨a, g1, ex_st g2 (dl_new q x1)⟩⟩⟩
theorem TyN.sub {n : Nat} {S' : List Addr} (h : TyN K S H pt e n) (m : ∀ a ∈ S', a ∈ S) : TyN K S' H pt e n := by
  obtain ⟨kvs, h1, h2, h3⟩ := h
  exact ⟨kvs, h1, h2, fun x => ⟨(h3 x).1, fun T t => by
    obtain ⟨a, g1, g2⟩ := (h3 x).2 T t
    exact ⟨a, g1, ex_st g2 (dl_sub m)⟩⟩⟩
/-- types[x] = T -/
theorem TyN.put {n : Nat} (h : TyN K S H pt e n) (hp : pt ∈ S) (hn : n < 1000) {x : Str} {T : List R} {a : Addr} (t : SqT K (dl S H) a (tv T)) {N : Hp → Prop} (k : ∀ H1, Ks [pt] H H1 → TyN K S H1 pt (e.put x T) (n + 1) → N H1) : PutD (.ref pt) (.str x) (.ref a) H N := by
  obtain ⟨kvs, h1, h2, h3⟩ := h
  refine a_putD h1 (by omega) (k _ ((Ks.refl _ _).upd (by simp)) ⟨_, upd_same, Nat.le_trans (putK_le _ _ _) (Nat.succ_le_succ h2), fun y => ?_⟩)
  rw [dl_upd hp, valV_put]
  unfold Env.put
  by_cases c : y = x
  · rw [if_pos c, if_pos (by rw [c])]
    refine ⟨fun z => (by cases z), fun U z => ?_⟩
    cases Option.some.inj z
    exact ⟨a, rfl, t⟩
  · rw [if_neg c, if_neg (fun z => c (Sum.inr.inj z))]
    exact h3 y
/-- {} as a dict of types -/
theorem TyN.new (h : H pt = some (.dK [])) : TyN K S H pt e0 0 := ⟨[], h, Nat.le_refl _, fun x => ⟨fun _ => rfl, fun T z => by cases z⟩⟩
end
theorem dpa_rs {K : PySem.W.Frag} {H : Hp} : ∀ (T : List R) (zs : List V), DpAll K H zs (T.map fun x => .str x.s) → zs = tv T
  | [], _, h => by
    cases h
    rfl
  | x :: T, _, h => by
    cases h with
    | cons u v =>
      cases dp_str u
      rw [dpa_rs T _ v]
      rfl
theorem dp_ruT {K : PySem.W.Frag} {H : Hp} {v : V} {T : List R} (h : Dp K H v (ru T)) : ∃ a, v = .ref a ∧ SqT K H a (tv T) := by
  obtain ⟨a, zs, rfl, h1, h2⟩ := dp_tup h
  rw [dpa_rs T zs h2] at h1
  exact ⟨a, rfl, h1⟩
theorem dp_pD {K : PySem.W.Frag} {H : Hp} {v : V} {q : Str × List R} (h : Dp K H v (pD q)) : ∃ p a, v = .ref p ∧ SqT K H p [.str q.1, .ref a] ∧ SqT K H a (tv q.2) := by
  obtain ⟨p, ys, rfl, hT, hA⟩ := dp_tup h
  cases hA with
  | cons g1 t =>
    cases t with
    | cons g2 t =>
      cases t
      cases dp_str g1
      obtain ⟨a, rfl, hT2⟩ := dp_ruT g2
      exact ⟨p, a, rfl, hT, hT2⟩
def EnvK (K : PySem.W.Frag) (H : Hp) (kvs : Kv) (e : Env) : Prop := ∀ x, (e x = none → valV kvs (Sum.inr x) = none) ∧ ∀ T, e x = some T → ∃ a, valV kvs (Sum.inr x) = some (.ref a) ∧ SqT K H a (tv T)
theorem EnvK.put {K : PySem.W.Frag} {H : Hp} {kvs : Kv} {e : Env} (h : EnvK K H kvs e) {x : Str} {T : List R} {a : Addr} (t : SqT K H a (tv T)) : EnvK K H (putK kvs (Sum.inr x) (.ref a)) (e.put x T) := fun y => by
  rw [valV_put]
  unfold Env.put
  by_cases c : y = x
  · rw [if_pos c, if_pos (by rw [c])]
    refine ⟨fun z => (by cases z), fun U z => ?_⟩
    cases Option.some.inj z
    exact ⟨a, rfl, t⟩
  · rw [if_neg c, if_neg (fun z => c (Sum.inr.inj z))]
    exact h y
end Ver
set_option Elab.async false
set_option linter.all false
set_option maxRecDepth 100000
set_option maxHeartbeats 4000000
namespace Ver
open PySem PySem.Spec PyProof.Rows L2 Evl
def xD (q : List R × List R) : PyData := .tuple [ru q.1, ru q.2]
def hdR : List R → R
  | x :: _ => x
  | [] => .n
/-- all that is known are types -/
def EO (e : Env) : Prop := ∀ x T, e x = some T → tyO T
theorem EO.nil : EO e0 := fun _ _ h => by cases h
theorem EO.put {e : Env} (h : EO e) (x : Str) {T : List R} (t : tyO T) : EO (e.put x T) := fun y U z => by
  unfold Env.put at z
  by_cases c : y = x
  · rw [if_pos c] at z
    cases Option.some.inj z
    exact t
  · rw [if_neg c] at z
    exact h y U z
theorem EO.st {e : Env} (h : EO e) {s : Stm} (o : stO s) : EO (envS e s) := by
  cases s with
  | lt x T s => exact h.put x o.2.1
  | put x k s => exact h
  | call f ss => exact h
structure XL (K : PySem.W.Frag) (H : Hp) (a : Addr) (ex : List (List R × List R)) : Prop where
  ex : ∃ xs, SqL K H a xs ∧ DpAll K H xs (ex.map xD)
theorem XL.up {K : PySem.W.Frag} {H H1 : Hp} {a : Addr} {ex : List (List R × List R)} (h : XL K H a ex) (e : Ex H H1) : XL K H1 a ex := by
  obtain ⟨xs, h1, h2⟩ := h.ex
  exact ⟨xs, ex_sl h1 e, dpa_ex e h2⟩
theorem dp_two {K : PySem.W.Frag} {H : Hp} {v : V} {a b : PyData} (h : Dp K H v (.tuple [a, b])) : ∃ p u w, v = .ref p ∧ SqT K H p [u, w] ∧ Dp K H u a ∧ Dp K H w b := by
  obtain ⟨p, ys, rfl, hT, hA⟩ := dp_tup h
  cases hA with
  | cons g1 t =>
    cases t with
    | cons g2 t =>
      cases t
      exact ⟨p, _, _, rfl, hT, g1, g2⟩
theorem dp_thr {K : PySem.W.Frag} {H : Hp} {v : V} {a b c : PyData} (h : Dp K H v (.tuple [a, b, c])) : ∃ p u w z, v = .ref p ∧ SqT K H p [u, w, z] ∧ Dp K H u a ∧ Dp K H w b ∧ Dp K H z c := by
  obtain ⟨p, ys, rfl, hT, hA⟩ := dp_tup h
  cases hA with
  | cons g1 t =>
    cases t with
    | cons g2 t =>
      cases t with
      | cons g3 t =>
        cases t
        exact ⟨p, _, _, _, rfl, hT, g1, g2, g3⟩
theorem dp_fou {K : PySem.W.Frag} {H : Hp} {v : V} {a b c d : PyData} (h : Dp K H v (.tuple [a, b, c, d])) : ∃ p u w z y, v = .ref p ∧ SqT K H p [u, w, z, y] ∧ Dp K H u a ∧ Dp K H w b ∧ Dp K H z c ∧ Dp K H y d := by
  obtain ⟨p, ys, rfl, hT, hA⟩ := dp_tup h
  cases hA with
  | cons g1 t =>
    cases t with
    | cons g2 t =>
      cases t with
      | cons g3 t =>
        cases t with
        | cons g4 t =>
          cases t
          exact ⟨p, _, _, _, _, rfl, hT, g1, g2, g3, g4⟩
theorem new_dl {H H1 : Hp} {m : Addr} (n : H m = none) (e : Ex H H1) : Ex H (dl [m] H1) := fun a o q => by
  have k : a ≠ m := ne_of_none q n
  rw [dl_nin (by simpa using k)]
  exact e a o q
/-- functions by their names -/
structure FnD (K : PySem.W.Frag) (C : Addr) (H : Hp) (pd : Addr) (fs : List TF) : Prop where
  ex : ∃ kvs : Kv, H pd = some (.dK kvs) ∧ ∀ g ∈ fs, ∃ a, valV kvs (Sum.inr g.n) = some (.ref a) ∧ FnAt K C H a g.fd
theorem FnD.up {K : PySem.W.Frag} {C : Addr} {H H1 : Hp} {pd : Addr} {fs : List TF} (h : FnD K C H pd fs) (e : Ex H H1) : FnD K C H1 pd fs := by
  obtain ⟨kvs, h1, h2⟩ := h.ex
  exact ⟨kvs, e _ _ h1, fun g hg => by
    obtain ⟨a, g1, g2⟩ := h2 g hg
    exact ⟨a, g1, g2.up e⟩⟩
/-- a program as an object -/
structure PgAt (K : PySem.W.Frag) (CP CF : Addr) (H : Hp) (z : Addr) (fs : List TF) (ss : List Stm) : Prop where
  ex : ∃ dz r1 r2 ws1 ws2, H z = some (.ins CP dz (pgF r1 r2)) ∧ H r1 = some (.lst ws1) ∧ FnAll K CF H ws1 (fs.map TF.fd) ∧ H r2 = some (.lst ws2) ∧ DpAll K H ws2 (ss.map stD)
theorem PgAt.up {K : PySem.W.Frag} {CP CF : Addr} {H H1 : Hp} {z : Addr} {fs : List TF} {ss : List Stm} (h : PgAt K CP CF H z fs ss) (e : Ex H H1) : PgAt K CP CF H1 z fs ss := by
  obtain ⟨dz, r1, r2, ws1, ws2, h1, h2, h3, h4, h5⟩ := h.ex
  exact ⟨dz, r1, r2, ws1, ws2, e _ _ h1, e _ _ h2, h3.up e, e _ _ h4, dpa_ex e h5⟩
theorem cf_mono {d fs : List TF} {s : Stm} (h : cf d s) (m : ∀ g ∈ d, g ∈ fs) : cf fs s := by
  cases s with
  | lt x T s => trivial
  | put x k s => trivial
  | call f ss =>
    obtain ⟨g, h1, h2⟩ := h
    exact ⟨g, m g h1, h2⟩
theorem Fit.all : ∀ {r d : List TF} {ss : List Stm}, Fit d r ss → (∀ f ∈ r, ∀ s ∈ f.b, cf (d ++ r) s) ∧ ∀ s ∈ ss, cf (d ++ r) s
  | [], d, ss, h => ⟨fun f hf => (by cases hf), fun s hs => cf_mono (h s hs) fun g hg => List.mem_append_left _ hg⟩
  | f :: r, d, ss, h => by
    have ih := Fit.all h.2
    rw [List.append_assoc] at ih
    refine ⟨fun g hg s hs => ?_, ih.2⟩
    rcases List.mem_cons.mp hg with rfl | hg
    · exact cf_mono (h.1 s hs) fun g hg => List.mem_append_left _ hg
    · exact ih.1 g hg s hs
mutual
def ntD : PyData → Bool
  | .list _ => false
  | .tuple ds => ntA ds
  | _ => true
def ntA : List PyData → Bool
  | [] => true
  | d :: ds => ntD d && ntA ds
end
/-- all that is no list is kept -/
def Kt (H H' : Hp) : Prop := ∀ a o, H a = some o → (∀ xs, o ≠ .lst xs) → H' a = some o
theorem Kt.ex {H H' : Hp} (e : Ex H H') : Kt H H' := fun a o h _ => e a o h
theorem Kt.trans {H H1 H2 : Hp} (a : Kt H H1) (b : Kt H1 H2) : Kt H H2 := fun x o h n => b x o (a x o h n) n
theorem Kt.mut {H : Hp} {p : Addr} {xs : List V} {o : HO} (f : H p = some (.lst xs)) : Kt H (upd H p o) := fun a u h n => by
  rw [upd_ne (fun z => by rw [z, f] at h; exact n xs (Option.some.inj h).symm)]
  exact h
theorem Kt.dl {H : Hp} {p : Addr} {xs : List V} (f : H p = some (.lst xs)) : Kt H (dl [p] H) := fun a u h n => by
  rw [dl_nin (by
    rw [List.mem_singleton]
    exact fun z => by rw [z, f] at h; exact n xs (Option.some.inj h).symm)]
  exact h
section
variable {K : PySem.W.Frag}
theorem st_kt {H H' : Hp} {a : Addr} {xs : List V} (k : Kt H H') (f : SqT K H a xs) : SqT K H' a xs := by
  rcases f with (f | ⟨o, f⟩) | f
  · exact .inl (.inl (k _ _ f (fun _ z => by cases z)))
  · exact .inl (.inr ⟨o, k _ _ f (fun _ z => by cases z)⟩)
  · exact .inr f
mutual
theorem dp_kt {H H' : Hp} (k : Kt H H') : ∀ {v : V} {d : PyData}, Dp K H v d → ntD d = true → Dp K H' v d
  | _, _, .non, _ => .non
  | _, _, .bl x, _ => .bl x
  | _, _, .int i, _ => .int i
  | _, _, .str x, _ => .str x
  | _, _, .lst h t, n => by cases n
  | _, _, .tup h t, n => .tup (st_kt k h) (dpa_kt k t n)
theorem dpa_kt {H H' : Hp} (k : Kt H H') : ∀ {xs : List V} {ds : List PyData}, DpAll K H xs ds → ntA ds = true → DpAll K H' xs ds
  | _, _, .nil, _ => .nil
  | _, _, .cons h t, n => by
    have n' := (Bool.and_eq_true _ _ ▸ n : _ ∧ _)
    exact .cons (dp_kt k h n'.1) (dpa_kt k t n'.2)
end
end
def o1 (k : Nat) : Option Str → List (Nat × Str)
  | some f => [(k, f)]
  | none => []
theorem TyN.mono {K : PySem.W.Frag} {S : List Addr} {H : Hp} {pt : Addr} {e : Env} {n n' : Nat} (h : TyN K S H pt e n) (l : n ≤ n') : TyN K S H pt e n' := by
  obtain ⟨kvs, h1, h2, h3⟩ := h
  exact ⟨kvs, h1, Nat.le_trans h2 l, h3⟩
theorem dp_l3 {K : PySem.W.Frag} {H : Hp} {v : V} {a b c : PyData} (h : Dp K H v (.list [a, b, c])) : ∃ p u w z, v = .ref p ∧ SqL K H p [u, w, z] ∧ Dp K H u a ∧ Dp K H w b ∧ Dp K H z c := by
  obtain ⟨p, ys, rfl, hT, hA⟩ := dp_lst h
  cases hA with
  | cons g1 t =>
    cases t with
    | cons g2 t =>
      cases t with
      | cons g3 t =>
        cases t
        exact ⟨p, _, _, _, rfl, hT, g1, g2, g3⟩
theorem dp_l2 {K : PySem.W.Frag} {H : Hp} {v : V} {a b : PyData} (h : Dp K H v (.list [a, b])) : ∃ p u w, v = .ref p ∧ SqL K H p [u, w] ∧ Dp K H u a ∧ Dp K H w b := by
  obtain ⟨p, ys, rfl, hT, hA⟩ := dp_lst h
  cases hA with
  | cons g1 t =>
    cases t with
    | cons g2 t =>
      cases t
      exact ⟨p, _, _, rfl, hT, g1, g2⟩
end Ver
set_option Elab.async false
set_option linter.all false
set_option maxRecDepth 100000
set_option maxHeartbeats 4000000
namespace Ver
open PySem PySem.Spec PyProof.Rows L2 Evl
inductive Vl | num (n : Int) | th (n : Nat) | nul
structure Thg where
  x : Str
  T : List R
  v : Vl
structure RS where
  th : List Thg
  br : List (Bool × Nat)
  n : Nat
abbrev Sc := Str → Option Nat
def sc0 : Sc := fun _ => none
def Sc.put (c : Sc) (x : Str) (n : Nat) : Sc := fun y => if y = x then some n else c y
abbrev Brs := List (Bool × Nat)
def rdB (t : Thg) (n : Nat) : Brs := if (hdR t.T).hr then [] else [(true, n)]
def wrB (t : Thg) (n : Nat) : Brs := if (hdR t.T).hw then [] else [(false, n)]
def fol (ths : List Thg) : Nat → Nat → Brs × Option Nat
  | 0, n => ([], some n)
  | k + 1, n => match ths[n]? with
    | none => ([], none)
    | some t => match t.v with
      | .th m => (rdB t n ++ (fol ths k m).1, (fol ths k m).2)
      | _ => (rdB t n, none)
def folX (ths : List Thg) (sc : Sc) (x : Str) (k : Nat) : Brs × Option Nat := match sc x with
  | none => ([], none)
  | some n => fol ths k n
def rdV (ths : List Thg) : Brs × Option Nat → Brs × Option Vl
  | (b, none) => (b, none)
  | (b, some m) => match ths[m]? with
    | none => (b, none)
    | some t => (b ++ rdB t m, some t.v)
def gv (ths : List Thg) (sc : Sc) : Src → Brs × Option Vl
  | .num n => ([], some (.num n))
  | .null => ([], some .nul)
  | .adr x k => ((folX ths sc x k).1, (folX ths sc x k).2.map Vl.th)
  | .val x k => rdV ths (folX ths sc x k)
def gvs (ths : List Thg) (sc : Sc) : List Src → Brs × Option (List Vl)
  | [] => ([], some [])
  | s :: ss => match gv ths sc s with
    | (b, none) => (b, none)
    | (b, some v) => (b ++ (gvs ths sc ss).1, (gvs ths sc ss).2.map (v :: ·))
inductive Out | go | stop | long
  deriving DecidableEq
abbrev CL := Str → List Vl → RS → Out × RS
def putT (s : RS) (sc : Sc) (b b2 : Brs) (m : Nat) (v : Vl) : Out × RS × Sc := match s.th[m]? with
  | none => (.stop, ⟨s.th, s.br ++ b ++ b2, s.n + 1⟩, sc)
  | some t => (.go, ⟨s.th.set m ⟨t.x, t.T, v⟩, s.br ++ b ++ b2 ++ wrB t m, s.n + 1⟩, sc)
def ex1 (lim : Bool) (cl : CL) (sc : Sc) (s : RS) (st : Stm) : Out × RS × Sc :=
  if lim = true ∧ 1000 ≤ s.n then (.long, ⟨s.th, s.br, s.n + 1⟩, sc) else
  match st with
  | .lt x T src => match gv s.th sc src with
    | (b, none) => (.stop, ⟨s.th, s.br ++ b, s.n + 1⟩, sc)
    | (b, some v) => (.go, ⟨s.th ++ [⟨x, T, v⟩], s.br ++ b, s.n + 1⟩, sc.put x s.th.length)
  | .put x k src => match folX s.th sc x k with
    | (b, none) => (.stop, ⟨s.th, s.br ++ b, s.n + 1⟩, sc)
    | (b, some m) => match gv s.th sc src with
      | (b2, none) => (.stop, ⟨s.th, s.br ++ b ++ b2, s.n + 1⟩, sc)
      | (b2, some v) => putT s sc b b2 m v
  | .call f ss => match gvs s.th sc ss with
    | (b, none) => (.stop, ⟨s.th, s.br ++ b, s.n + 1⟩, sc)
    | (b, some vs) => ((cl f vs ⟨s.th, s.br ++ b, s.n + 1⟩).1, (cl f vs ⟨s.th, s.br ++ b, s.n + 1⟩).2, sc)
def s0 : RS := ⟨[], [], 0⟩
def VSh (ths : List Thg) (l : Nat) : Vl → Prop
  | .num _ => l = 0
  | .nul => l ≠ 0
  | .th m => l ≠ 0 ∧ ∃ t : Thg, ths[m]? = some t ∧ t.T.length = l
def ThSh (ths : List Thg) : Prop := ∀ t ∈ ths, 1 ≤ t.T.length ∧ VSh ths (t.T.length - 1) t.v
def ScSh (ths : List Thg) (sc : Sc) (e : Env) : Prop := ∀ x T, e x = some T → ∃ (n : Nat) (t : Thg), sc x = some n ∧ ths[n]? = some t ∧ t.T = T
/-- the same things, other values, and more -/
def Gr (a b : List Thg) : Prop := ∀ (i : Nat) (t : Thg), a[i]? = some t → ∃ t' : Thg, b[i]? = some t' ∧ t'.T = t.T
theorem Gr.refl (a : List Thg) : Gr a a := fun _ t h => ⟨t, h, rfl⟩
theorem Gr.trans {a b c : List Thg} (h : Gr a b) (k : Gr b c) : Gr a c := fun i t e => by
  obtain ⟨t1, e1, q1⟩ := h i t e
  obtain ⟨t2, e2, q2⟩ := k i t1 e1
  exact ⟨t2, e2, q2.trans q1⟩
theorem Gr.app (a b : List Thg) : Gr a (a ++ b) := fun i t h => ⟨t, by rw [List.getElem?_append_left (at_lt h)]; exact h, rfl⟩
theorem Gr.set (a : List Thg) (m : Nat) {t : Thg} (h : a[m]? = some t) (v : Vl) : Gr a (a.set m ⟨t.x, t.T, v⟩) := fun i u e => by
  by_cases c : m = i
  · subst c
    rw [h] at e
    cases e
    exact ⟨_, List.getElem?_set_self (at_lt h), rfl⟩
  · exact ⟨u, by rw [List.getElem?_set_ne c]; exact e, rfl⟩
theorem VSh.gr {a b : List Thg} {l : Nat} {v : Vl} (h : VSh a l v) (g : Gr a b) : VSh b l v := by
  cases v with
  | num n => exact h
  | nul => exact h
  | th m =>
    obtain ⟨h0, t, h1, h2⟩ := h
    obtain ⟨t', e, q⟩ := g m t h1
    exact ⟨h0, t', e, by rw [q]; exact h2⟩
theorem ScSh.gr {a b : List Thg} {sc : Sc} {e : Env} (h : ScSh a sc e) (g : Gr a b) : ScSh b sc e := fun x T z => by
  obtain ⟨n, t, h1, h2, h3⟩ := h x T z
  obtain ⟨t', q1, q2⟩ := g n t h2
  exact ⟨n, t', h1, q1, q2.trans h3⟩
theorem ScSh.nil (ths : List Thg) (sc : Sc) : ScSh ths sc e0 := fun _ _ z => by cases z
theorem ScSh.put {ths : List Thg} {sc : Sc} {e : Env} (h : ScSh ths sc e) {x : Str} {T : List R} {n : Nat} {t : Thg} (k : ths[n]? = some t) (q : t.T = T) : ScSh ths (sc.put x n) (e.put x T) := fun y U z => by
  unfold Env.put at z
  unfold Sc.put
  by_cases c : y = x
  · rw [if_pos c] at z ⊢
    cases z
    exact ⟨n, t, rfl, k, q⟩
  · rw [if_neg c] at z ⊢
    exact h y U z
theorem ThSh.add {ths : List Thg} (h : ThSh ths) {x : Str} {T : List R} {v : Vl} (l : 1 ≤ T.length) (k : VSh ths (T.length - 1) v) : ThSh (ths ++ [⟨x, T, v⟩]) := fun t ht => by
  rcases List.mem_append.mp ht with ht | ht
  · exact ⟨(h t ht).1, (h t ht).2.gr (Gr.app _ _)⟩
  · cases List.mem_singleton.mp ht
    exact ⟨l, k.gr (Gr.app _ _)⟩
theorem ThSh.set {ths : List Thg} (h : ThSh ths) {m : Nat} {t : Thg} (e : ths[m]? = some t) {v : Vl} (k : VSh ths (t.T.length - 1) v) : ThSh (ths.set m ⟨t.x, t.T, v⟩) := fun u hu => by
  have g := Gr.set ths m e v
  obtain ⟨i, hi⟩ := List.getElem?_of_mem hu
  by_cases c : m = i
  · subst c
    rw [List.getElem?_set_self (at_lt e)] at hi
    cases hi
    exact ⟨(h t (List.mem_of_getElem? e)).1, k.gr g⟩
  · rw [List.getElem?_set_ne c] at hi
    have hm := List.mem_of_getElem? hi
    exact ⟨(h u hm).1, (h u hm).2.gr g⟩
def shSrc (e : Env) (l : Nat) : Src → Prop
  | .num _ => l = 0
  | .null => l ≠ 0
  | .adr x k => ∃ T, e x = some T ∧ k < T.length ∧ T.length - k = l
  | .val x k => ∃ T, e x = some T ∧ k < T.length ∧ T.length - k - 1 = l
def shSrcs (e : Env) : List (Str × List R) → List Src → Prop
  | q :: ps, s :: ss => shSrc e (q.2.length - 1) s ∧ shSrcs e ps ss
  | [], [] => True
  | _, _ => False
def VShs (ths : List Thg) : List (Str × List R) → List Vl → Prop
  | q :: ps, v :: vs => VSh ths (q.2.length - 1) v ∧ VShs ths ps vs
  | [], [] => True
  | _, _ => False
theorem VShs.gr {a b : List Thg} (g : Gr a b) : ∀ {ps : List (Str × List R)} {vs : List Vl}, VShs a ps vs → VShs b ps vs
  | [], [], _ => trivial
  | [], _ :: _, k => k.elim
  | _ :: _, [], k => k.elim
  | _ :: _, _ :: _, k => ⟨k.1.gr g, VShs.gr g k.2⟩
def shStm (fs : List TF) (e : Env) : Stm → Prop
  | .lt _ T s => 1 ≤ T.length ∧ shSrc e (T.length - 1) s
  | .put x k s => ∃ T, e x = some T ∧ k < T.length ∧ shSrc e (T.length - k - 1) s
  | .call f ss => ∃ g ∈ fs, g.n = f ∧ shSrcs e g.p ss
def shBlk (fs : List TF) : Env → List Stm → Prop
  | _, [] => True
  | e, s :: ss => shStm fs e s ∧ shBlk fs (envS e s) ss
/-- functions that fit, the last one first -/
def FnSh : List TF → Prop
  | [] => True
  | g :: r => (∀ q ∈ g.p, 1 ≤ q.2.length) ∧ shBlk r (envP e0 g.p) g.b ∧ g.n ∉ r.map TF.n ∧ FnSh r
end Ver
set_option Elab.async false
set_option linter.all false
set_option maxRecDepth 100000
set_option maxHeartbeats 4000000
namespace Ver
open PySem PySem.Spec PyProof.Rows L2 Evl
/-- the reading: what the element may let out is wished at the slots ahead of the block -/
def tLcX (wi : TI) (g : TG) (tt : TT) (te : XK → TE) (W : WX) (vs : List Nat) : TE := fun σ H Q => tLc wi g tt (te fun c d H' => W c d σ H') vs σ H Q
end Ver
set_option Elab.async false
set_option linter.all false
set_option maxRecDepth 100000
set_option maxHeartbeats 4000000
namespace Ver
open PySem PySem.Spec PyProof.Rows L2 Evl
def isT : HO → Bool
  | .tup _ => true
  | .frz _ _ => true
  | _ => false
def Im (H : Hp) : Hp := fun a => match H a with
  | some o => if isT o = true then some o else none
  | none => none
theorem im_at {H : Hp} {a : Addr} {o : HO} (h : H a = some o) (t : isT o = true) : Im H a = some o := by
  unfold Im
  rw [h]
  exact if_pos t
theorem im_of {H : Hp} {a : Addr} {o : HO} (h : Im H a = some o) : H a = some o ∧ isT o = true := by
  unfold Im at h
  cases e : H a with
  | none => rw [e] at h; cases h
  | some u =>
    rw [e] at h
    by_cases t : isT u = true
    · simp only [if_pos t] at h
      cases h
      exact ⟨rfl, t⟩
    · simp only [if_neg t] at h
      cases h
theorem im_le (H : Hp) : Ex (Im H) H := fun _ _ h => (im_of h).1
theorem im_ex {H H1 : Hp} (e : Ex H H1) : Ex (Im H) (Im H1) := fun a o h => im_at (e _ _ (im_of h).1) (im_of h).2
theorem im_upd {H : Hp} {p : Addr} {o u : HO} (h : H p = some u) (t : isT u = false) : Ex (Im H) (Im (upd H p o)) := fun a v q => by
  obtain ⟨q1, q2⟩ := im_of q
  have : a ≠ p := fun z => by
    rw [z, h] at q1
    cases q1
    rw [t] at q2
    cases q2
  exact im_at (by rw [upd_ne this]; exact q1) q2
/-- all but M is kept, and what can't change -/
structure Kp (M : List Addr) (H H1 : Hp) : Prop where
  k : Ks M H H1
  i : Ex (Im H) (Im H1)
theorem Kp.refl (M : List Addr) (H : Hp) : Kp M H H := ⟨Ks.refl _ _, Ex.refl _⟩
theorem Kp.trans {M : List Addr} {H H1 H2 : Hp} (a : Kp M H H1) (b : Kp M H1 H2) : Kp M H H2 := ⟨a.k.trans b.k, a.i.trans b.i⟩
theorem Kp.of {M : List Addr} {H H1 : Hp} (e : Ex H H1) : Kp M H H1 := ⟨Ks.of e, im_ex e⟩
theorem Kp.mono {M N : List Addr} {H H1 : Hp} (a : Kp M H H1) (h : ∀ x ∈ M, x ∈ N) : Kp N H H1 := ⟨a.k.mono h, a.i⟩
theorem Kp.upd {M : List Addr} {H H1 : Hp} {p : Addr} {o u : HO} (a : Kp M H H1) (h : H1 p = some u) (t : isT u = false) (m : p ∈ M) : Kp M H (L2.upd H1 p o) := ⟨a.k.upd m, a.i.trans (im_upd h t)⟩
theorem Kp.mut {M : List Addr} {H H1 : Hp} {p : Addr} {o u : HO} (a : Kp M H H1) (h : H1 p = some u) (t : isT u = false) (n : H p = none) : Kp M H (L2.upd H1 p o) := ⟨a.k.mut n, a.i.trans (im_upd h t)⟩
theorem Kp.drop {M : List Addr} {H H1 : Hp} {p : Addr} (a : Kp (p :: M) H H1) (n : H p = none) : Kp M H H1 := ⟨a.k.drop n, a.i⟩
theorem Kp.at {M : List Addr} {H H1 : Hp} {a : Addr} {o : HO} (k : Kp M H H1) (n : a ∉ M) (h : H a = some o) : H1 a = some o := k.k _ _ n h
theorem Kp.ex {H H1 : Hp} (k : Kp [] H H1) : Ex H H1 := k.k.ex
section
variable {K : PySem.W.Frag}
theorem st_im {H : Hp} {a : Addr} {xs : List V} (h : SqT K H a xs) : SqT K (Im H) a xs := by
  rcases h with (h | ⟨o, h⟩) | h
  · exact .inl (.inl (im_at h rfl))
  · exact .inl (.inr ⟨o, im_at h rfl⟩)
  · exact .inr h
mutual
theorem dp_im {H : Hp} : ∀ {v : V} {d : PyData}, Dp K H v d → ntD d = true → Dp K (Im H) v d
  | _, _, .non, _ => .non
  | _, _, .bl x, _ => .bl x
  | _, _, .int i, _ => .int i
  | _, _, .str x, _ => .str x
  | _, _, .lst h t, n => by cases n
  | _, _, .tup h t, n => .tup (st_im h) (dpa_im t n)
theorem dpa_im {H : Hp} : ∀ {xs : List V} {ds : List PyData}, DpAll K H xs ds → ntA ds = true → DpAll K (Im H) xs ds
  | _, _, .nil, _ => .nil
  | _, _, .cons h t, n => by
    have n' := (Bool.and_eq_true _ _ ▸ n : _ ∧ _)
    exact .cons (dp_im h n'.1) (dpa_im t n'.2)
end
def vlD : Vl → PyData
  | .num n => .int n
  | .th n => .tuple [.str "thing", .int (n : Int)]
  | .nul => .none
def thD (t : Thg) : PyData := .tuple [.str t.x, ru t.T, vlD t.v]
def brD (b : Bool × Nat) : PyData := .tuple [.str (ltr b.1), .int (b.2 : Int)]
abbrev kM : Str := "made"
abbrev kB : Str := "broken"
abbrev kE : Str := "executed"
abbrev kS : Str := "scope"
def st4 (a b c d : V) : List (Str × V) := [(kM, a), (kB, b), (kE, c), (kS, d)]
abbrev stF (md br : Addr) (n : Nat) (sc : Addr) : List (Str × V) := st4 (.ref md) (.ref br) (.int (n : Int)) (.ref sc)
/-- the object at z is the state s -/
structure SA (K : PySem.W.Frag) (C : Addr) (H : Hp) (z md br sc : Addr) (s : RS) : Prop where
  o : ∃ dx, H z = some (.ins C dx (stF md br s.n sc))
  m : ∃ xs, H md = some (.lst xs) ∧ DpAll K (Im H) xs (s.th.map thD)
  b : ∃ xs, H br = some (.lst xs) ∧ DpAll K (Im H) xs (s.br.map brD)
  d : md ≠ br
theorem SA.up {C : Addr} {H H1 : Hp} {z md br sc : Addr} {s : RS} {M : List Addr} (h : SA K C H z md br sc s) (k : Kp M H H1) (n : z ∉ M ∧ md ∉ M ∧ br ∉ M) : SA K C H1 z md br sc s where
  o := by
    obtain ⟨dx, e⟩ := h.o
    exact ⟨dx, k.at n.1 e⟩
  m := by
    obtain ⟨xs, e, d⟩ := h.m
    exact ⟨xs, k.at n.2.1 e, dpa_ex k.i d⟩
  b := by
    obtain ⟨xs, e, d⟩ := h.b
    exact ⟨xs, k.at n.2.2 e, dpa_ex k.i d⟩
  d := h.d
theorem SA.ex {C : Addr} {H H1 : Hp} {z md br sc : Addr} {s : RS} (h : SA K C H z md br sc s) (e : Ex H H1) : SA K C H1 z md br sc s := h.up (M := []) (Kp.of e) (by simp)
/-- a scope: the numbers of the things that are variables -/
def ScD (H : Hp) (sc : Addr) (c : Sc) (N : Nat) : Prop := ∃ kvs : Kv, H sc = some (.dK kvs) ∧ kvs.length ≤ N ∧ ∀ x, valV kvs (Sum.inr x) = (c x).map fun n => .int ((n : Nat) : Int)
theorem ScD.at {H H1 : Hp} {sc : Addr} {c : Sc} {N : Nat} {M : List Addr} (h : ScD H sc c N) (k : Kp M H H1) (n : sc ∉ M) : ScD H1 sc c N := by
  obtain ⟨kvs, e, r⟩ := h
  exact ⟨kvs, k.at n e, r⟩
theorem ScD.ex {H H1 : Hp} {sc : Addr} {c : Sc} {N : Nat} (h : ScD H sc c N) (e : Ex H H1) : ScD H1 sc c N := h.at (M := []) (Kp.of e) (by simp)
theorem ScD.mono {H : Hp} {sc : Addr} {c : Sc} {N N' : Nat} (h : ScD H sc c N) (l : N ≤ N') : ScD H sc c N' := by
  obtain ⟨kvs, e, r, q⟩ := h
  exact ⟨kvs, e, Nat.le_trans r l, q⟩
theorem ScD.nil {H : Hp} {sc : Addr} (h : H sc = some (.dK [])) : ScD H sc sc0 0 := ⟨[], h, Nat.le_refl _, fun _ => rfl⟩
theorem ScD.get {H : Hp} {sc : Addr} {c : Sc} {N : Nat} (h : ScD H sc c N) {x : Str} {n : Nat} (e : c x = some n) {Q : VK} (k : Q (.int (n : Int)) H) : GetI (.ref sc) (.str x) H Q := by
  obtain ⟨kvs, h1, _, h3⟩ := h
  exact a_dget h1 (by rw [h3 x, e]; rfl) k
theorem ScD.put {H : Hp} {sc : Addr} {c : Sc} {N : Nat} (h : ScD H sc c N) (hN : N < 90000) {x : Str} {n : Nat} {Q : Hp → Prop} (k : ∀ H1, Kp [sc] H H1 → ScD H1 sc (c.put x n) (N + 1) → Q H1) : PutD (.ref sc) (.str x) (.int (n : Int)) H Q := by
  obtain ⟨kvs, h1, h2, h3⟩ := h
  refine a_putD h1 (by omega) (k _ ((Kp.refl _ _).upd h1 rfl (by simp)) ⟨_, upd_same, Nat.le_trans (putK_le _ _ _) (Nat.succ_le_succ h2), fun y => ?_⟩)
  rw [valV_put]
  unfold Sc.put
  by_cases z : y = x
  · rw [if_pos z, if_pos (by rw [z])]
    rfl
  · rw [if_neg z, if_neg (fun q => z (Sum.inr.inj q))]
    exact h3 y
theorem ScD.ne {C : Addr} {H : Hp} {z md br sc sd : Addr} {s : RS} {c : Sc} {N : Nat} (h : ScD H sd c N) (a : SA K C H z md br sc s) : sd ≠ z ∧ sd ≠ md ∧ sd ≠ br := by
  obtain ⟨kvs, e, _⟩ := h
  obtain ⟨_, h1⟩ := a.o
  obtain ⟨_, h2, _⟩ := a.m
  obtain ⟨_, h3, _⟩ := a.b
  exact ⟨ne_of e h1 (fun z => by cases z), ne_of e h2 (fun z => by cases z), ne_of e h3 (fun z => by cases z)⟩
end
def CallM (C : Addr) (m : Str) (sp : Sp) (E : XK) (t : TA) (σ : L2.St) (x : V) (H : Hp) (Q : VK) : Prop := ∃ a dx fs, x = .ref a ∧ H a = some (.ins C dx fs) ∧ fs.lookup m = none ∧ t σ H fun vs H2 => sp (x :: vs) H2 Q E
theorem w_meth {C : Addr} {m : Str} {sp : Sp} {E : XK} {ta : TE} {t : TA} {σ : L2.St} {H : Hp} {Q : VK} (h : ta σ H fun x H1 => CallM C m sp E t σ x H1 Q) : tMeth C m sp [] E ta t σ H Q := by
  have e : (fun x H1 => CallM C m sp E t σ x H1 Q) = fun (x : V) H1 => ∃ a dx fs, x = .ref a ∧ H1 a = some (.ins C dx fs) ∧ fs.lookup m = none ∧ t σ H1 fun vs H2 => sp (x :: (vs ++ [])) H2 Q E := by
    funext x H1
    simp only [List.append_nil]
    rfl
  show ta σ H fun x H1 => ∃ a dx fs, x = .ref a ∧ H1 a = some (.ins C dx fs) ∧ fs.lookup m = none ∧ t σ H1 fun vs H2 => sp (x :: (vs ++ [])) H2 Q E
  rw [← e]
  exact h
theorem a_meth {C a dx : Addr} {fs : List (Str × V)} {m : Str} {sp : Sp} {E : XK} {t : TA} {σ : L2.St} {H : Hp} {Q : VK} (e : H a = some (.ins C dx fs)) (l : fs.lookup m = none) (k : t σ H fun vs H2 => sp (.ref a :: vs) H2 Q E) : CallM C m sp E t σ (.ref a) H Q := ⟨a, dx, fs, rfl, e, l, k⟩
/-- .. by a wish with the slots (within a try) -/
def tMethA (C : Addr) (m : Str) (sp : Sp) (E : L2.St → XK) (ta : TE) (t : TA) : TE := fun σ H Q => ta σ H fun x H1 => CallM C m sp (E σ) t σ x H1 Q
theorem w_methA {C : Addr} {m : Str} {sp : Sp} {E : L2.St → XK} {ta : TE} {t : TA} {σ : L2.St} {H : Hp} {Q : VK} (h : ta σ H fun x H1 => CallM C m sp (E σ) t σ x H1 Q) : tMethA C m sp E ta t σ H Q := h
def AugF (K : PySem.W.Frag) (tv : TE) (rd : V → V → Hp → VK → Prop) (f : Str) (D : Ends) (σ : L2.St) (x : V) (H : Hp) : Prop := ∃ a C dx fs v, x = .ref a ∧ H a = some (.ins C dx fs) ∧ Cls K C ∧ NoAttr K C f ∧ fs.lookup f = some v ∧
  tv σ H fun y H2 => rd v y H2 fun z H3 => ∃ dx' fs', H3 a = some (.ins C dx' fs') ∧ fs'.length < 1000 ∧ D.nx σ (upd H3 a (.ins C dx' (putF f z fs')))
theorem w_aug {K : PySem.W.Frag} {ta tv : TE} {rd : V → V → Hp → VK → Prop} {f : Str} {D : Ends} {σ : L2.St} {H : Hp} (h : ta σ H fun x H1 => AugF K tv rd f D σ x H1) : sFldAug K ta tv rd f D σ H := h
section
variable {K : PySem.W.Frag} {H : Hp} {Q : VK}
theorem a_putK {a C dx : Addr} {fs : List (Str × V)} {f : Str} {y : V} {N : Hp → Prop} (c : Cls K C) (n : PySem.W.findIn K (.ref C) f = some none) (e : H a = some (.ins C dx fs)) (hl : fs.length < 1000) (k : ∀ H1, Kp [a] H H1 → H1 a = some (.ins C dx (putF f y fs)) → N H1) : SetF K f (.ref a) y H N :=
  a_put c n e hl (k _ ((Kp.refl _ _).upd e rfl (by simp)) upd_same)
theorem a_appK {p : Addr} {xs : List V} {v : V} (h : H p = some (.lst xs)) (hz : xs.length < 100000) (k : ∀ H1, Kp [p] H H1 → H1 p = some (.lst (xs ++ [v])) → Q .non H1) : rAppend (.ref p) [v] H Q := a_app h hz (k _ ((Kp.refl _ _).upd h rfl (by simp)) upd_same)
theorem a_setLK {p : Addr} {xs : List V} {j : Nat} {v : V} {N : Hp → Prop} (h : H p = some (.lst xs)) (hj : j < xs.length) (k : ∀ H1, Kp [p] H H1 → H1 p = some (.lst (xs.set j v)) → N H1) : rSetL (.ref p) (.int j) v H N := a_setL h hj (k _ ((Kp.refl _ _).upd h rfl (by simp)) upd_same)
end
end Ver
set_option Elab.async false
set_option linter.all false
set_option maxRecDepth 100000
set_option maxHeartbeats 4000000
namespace Ver
open PySem PySem.Spec PyProof.Rows
abbrev eS (b : Bool) : Obj := { cls := .type "set", dict := none, data := .set #[] 0 (.fresh 0 0 b) }
def nth (xs : List Str) (i : Nat) : Str := xs.getD i Str.empty
/-- the texts met before place i, each once -/
def fm (xs : List Str) : Nat → List Str
  | 0 => []
  | i + 1 => if nth xs i ∈ fm xs i then fm xs i else fm xs i ++ [nth xs i]
theorem fm_le (xs : List Str) : ∀ i, (fm xs i).length ≤ i
  | 0 => Nat.le_refl _
  | i + 1 => by
    have h := fm_le xs i
    unfold fm
    split
    · omega
    · rw [List.length_append, List.length_singleton]
      omega
theorem fm_mem (xs : List Str) (i : Nat) (k : Str) : decide (k ∈ fm xs (i + 1)) = (decide (k ∈ fm xs i) || decide (k = nth xs i)) := by
  have e : fm xs (i + 1) = if nth xs i ∈ fm xs i then fm xs i else fm xs i ++ [nth xs i] := rfl
  rw [e]
  by_cases h : nth xs i ∈ fm xs i
  · rw [if_pos h]
    by_cases z : k = nth xs i
    · subst z
      simp [h]
    · simp [z]
  · rw [if_neg h]
    simp [List.mem_append]
theorem fm_num (xs : List Str) (i : Nat) : (fm xs (i + 1)).length = if decide (nth xs i ∈ fm xs i) = true then (fm xs i).length else (fm xs i).length + 1 := by
  have e : fm xs (i + 1) = if nth xs i ∈ fm xs i then fm xs i else fm xs i ++ [nth xs i] := rfl
  rw [e]
  by_cases h : nth xs i ∈ fm xs i
  · rw [if_pos h, if_pos (decide_eq_true h)]
  · rw [if_neg h, if_neg (by simpa using h), List.length_append, List.length_singleton]
theorem nth_eq {xs : List Str} {i : Nat} (h : i < xs.length) : nth xs i = xs[i] := by
  unfold nth
  rw [List.getD_eq_getElem?_getD, List.getElem?_eq_getElem h]
  rfl
theorem fm_take (xs : List Str) : ∀ i, i ≤ xs.length → (∀ k, k ∈ fm xs i ↔ k ∈ xs.take i) ∧ ((fm xs i).length = i ↔ (xs.take i).Nodup)
  | 0, _ => ⟨fun k => by simp [fm], by simp [fm]⟩
  | i + 1, h => by
    have hi : i < xs.length := h
    obtain ⟨h1, h2⟩ := fm_take xs i (Nat.le_of_lt hi)
    have et : xs.take (i + 1) = xs.take i ++ [nth xs i] := by
      rw [nth_eq hi]
      exact take_snoc (List.getElem?_eq_getElem hi)
    have hl := fm_le xs i
    constructor
    · intro k
      have a := fm_mem xs i k
      have b : k ∈ fm xs (i + 1) ↔ (k ∈ fm xs i ∨ k = nth xs i) := by
        by_cases z : k ∈ fm xs (i + 1) <;> by_cases y : k ∈ fm xs i <;> by_cases x : k = nth xs i <;> simp_all
      rw [b, et, List.mem_append, List.mem_singleton, h1 k]
    · rw [fm_num, et, List.nodup_append]
      by_cases z : nth xs i ∈ fm xs i
      · rw [if_pos (decide_eq_true z)]
        constructor
        · intro y
          omega
        · intro y
          exact absurd rfl (y.2.2 _ ((h1 _).mp z) _ (by simp))
      · rw [if_neg (by simpa using z)]
        constructor
        · intro y
          refine ⟨h2.mp (by omega), by simp, fun a ha b hb e => ?_⟩
          rw [List.mem_singleton] at hb
          rw [e, hb] at ha
          exact z ((h1 _).mpr ha)
        · intro y
          have := h2.mpr y.1
          omega
theorem fm_nodup (xs : List Str) : decide (((fm xs xs.length).length : Int) = (xs.length : Int)) = nodupD xs := by
  have h := (fm_take xs xs.length (Nat.le_refl _)).2
  rw [List.take_length] at h
  unfold nodupD
  by_cases z : xs.Nodup
  · rw [decide_eq_true z, decide_eq_true (by have := h.mpr z; omega)]
  · rw [decide_eq_false z, decide_eq_false (fun y => z (h.mp (by omega)))]
section
variable {P : Program} {w : World} {B : Around} {R : Result → Shared → Prop} {J : Addr} {fp wr : List Addr} {G : Array GenState → Array GenState → Prop} {n : Nat} {Pv : Nat → Value → Prop} {St : Nat → Shared → Prop}
theorem loop_txt (W : WalksS P w B.in1 J fp wr G n Pv St) (D : Addr) (nf : D ∉ fp) (xs : List Str) (small : n + 1 < scanBound) (hv : ∀ i v, Pv i v → ∃ t, v = .str (nth xs i) t) :
    ∀ (m i : Nat) (s0 : Shared), n - i = m → i ≤ n → St i s0 → s0.heap.SetOf (strKind P w) D (fun k => decide (k ∈ fm xs i)) (fm xs i).length →
      (∀ s1, Moved (D :: wr) G s0 s1 → s1.heap.SetOf (strKind P w) D (fun k => decide (k ∈ fm xs n)) (fm xs n).length → R (.ok (.ret .none)) s1) →
      codeAny (model P w) B (.builtin "set.update.loop" ⟨[.ref D, .ref J], []⟩) R s0 := by
  have nw : D ∉ wr := fun z => nf (W.sub _ z)
  have up : ∀ b ∈ wr, b ∈ D :: wr := fun b z => List.mem_cons_of_mem _ z
  intro m
  induction m with
  | zero =>
    intro i s0 hm hi hst hD hR
    obtain rfl : i = n := by omega
    refine codeAny_builtin F.entry_set_update_loop ?_
    rw [Around.under_plainId F.plain_set_update_loop _]
    show wpAny _ B.in1 (pyNext (.ref J) >>= _) _ _ s0
    refine wpAny_bind (W.done s0 _ _ hst fun s1 mv => ?_)
    show wpAny _ B.in1 (ret Value.none) _ _ s1
    obtain ⟨o, es, ep, tb, ho, rest⟩ := hD
    exact wpAny_pure (hR s1 (mv.mono up) ⟨o, es, ep, tb, mv.heap D _ nw ho, rest⟩)
  | succ m ih =>
    intro i s0 hm hi hst hD hR
    have lt : i < n := by omega
    refine codeAny_builtin F.entry_set_update_loop ?_
    rw [Around.under_plainId F.plain_set_update_loop _]
    show wpAny _ B.in1 (pyNext (.ref J) >>= _) _ _ s0
    refine wpAny_bind (W.item i s0 _ _ lt hst fun v s1 pv st1 mv => ?_)
    obtain ⟨t, rfl⟩ := hv i v pv
    have hD1 : s1.heap.SetOf (strKind P w) D (fun k => decide (k ∈ fm xs i)) (fm xs i).length := by
      obtain ⟨o, es, ep, tb, ho, rest⟩ := hD
      exact ⟨o, es, ep, tb, mv.heap D _ nw ho, rest⟩
    show wpAny _ B.in1 (holding [Value.str (nth xs i) t] (setAdd D (.str (nth xs i) t)) >>= _) _ _ s1
    refine wpAny_bind (wpAny_holding ?_)
    unfold setAdd
    refine wpAny_holding (wpAny_bind ((strKind P w).pyHash (k := nth xs i) (strKind_is _ _ _ _) ?_))
    have room := fm_le xs i
    refine wpAny_setAddHashed_of (knd := strKind P w) (s := { s1 with toks := s1.toks + 1 }) (strKind_is _ _ _ _) rfl hD1 (by omega) fun h2 sb hD2 => ?_
    have hD3 : h2.SetOf (strKind P w) D (fun k => decide (k ∈ fm xs (i + 1))) (fm xs (i + 1)).length := SetOf_congr hD2 (fun k => (fm_mem xs i k).symm) (fm_num xs i).symm
    refine wpAny_pure ⟨plainId_quiet F.plain_set_update_loop _, ih (i + 1) _ (by omega) lt (W.frame _ s1 _ _ st1 (Nat.le_succ _) fun b hb o e => ?_) hD3 fun s2 mv2 hD4 => ?_⟩
    · rw [sb.2 b fun z : b = D => nf (by rw [← z]; exact hb)]
      exact e
    · refine hR s2 (Moved.trans W.gtrans ((mv.mono up).then_heap (Nat.le_succ _) fun b o hb e => ?_) mv2) hD4
      rw [sb.2 b fun z : b = D => hb (by rw [z]; exact List.mem_cons_self)]
      exact e
end
section
variable {P : Program} {w : World} {B : Around} {E : Value → Shared → Prop} {s0 : Shared}
set_option maxHeartbeats 8000000 in
theorem set_txt {l : Addr} {its : Array Value} {xs : List Str} {Q : Value → Shared → Prop} (nh : B.handled = none) (li : s0.heap.IsList l its) (ar : StrsAre its.toList xs) (small : its.size + 1 < scanBound)
    (k : ∀ (h1 : Heap) (tk : Nat), h1.SetOf (strKind P w) s0.heap.objs.size (fun x => decide (x ∈ fm xs its.size)) (fm xs its.size).length → (∀ b o, b < s0.heap.objs.size → s0.heap.get? b = some o → h1.get? b = some o) →
      Q (.ref s0.heap.objs.size) { s0 with heap := h1, toks := tk }) : wpAny (model P w) B (call (.type "set") [.ref l]) Q E s0 := by
  obtain ⟨c, tl, hmro⟩ := PySem.F.called_set.mro
  have m1 := PySem.F.called_set.made
  have m2 := PySem.F.called_set.sub
  refine wpAny_call (codeAny_of_tree ?_)
  show wpAny _ _ (callAny (.type "set") _) _ _ _
  refine wpAny_pure ⟨Code.quiet_builtin _ (by decide +kernel), codeAny_builtin PySem.F.entry_type_call ?_⟩
  rw [Around.under_plain (weight_type_call_type "set" [.ref l] []) rfl]
  have m3 := PySem.F.called_set.notType
  have m4 := PySem.F.called_set.canCreate
  have m5 := PySem.F.typeCall_set_1 (.ref l)
  repeat (any_goals (first | assumption | wp_step))
  refine codeAny_mono (code_set_new_1 (.ref l) (E := E) (Q₁ := fun v z => ∃ b : Bool, v = .ref s0.heap.objs.size ∧ z = { s0 with heap := s0.heap.push (eS b) }) fun b => ⟨b, rfl, rfl⟩) fun r z hz => ?_
  match r, hz with
  | .error e, hz => exact hz
  | .ok (.ret v), hz =>
    obtain ⟨b, rfl, rfl⟩ := hz
    have at0 : (s0.heap.push (eS b)).get? s0.heap.objs.size = some (eS b) := Heap.get?_push_size _ rfl
    have ty0 : Shared.TypeIs { s0 with heap := s0.heap.push (eS b) } (.ref s0.heap.objs.size) "set" := ⟨_, at0, rfl⟩
    have i1 := PySem.F.called_set.init.lookup
    have i2 := PySem.F.called_set.init.bind (.ref s0.heap.objs.size)
    repeat (any_goals (first | assumption | wp_step))
    refine codeAny_mono (codeAny_call_builtin (R := wants (fun r z => r = .none ∧ ∃ h1 tk, z = { s0 with heap := h1, toks := tk } ∧ h1.SetOf (strKind P w) s0.heap.objs.size (fun x => decide (x ∈ fm xs its.size)) (fm xs its.size).length ∧
      (∀ b o, b < s0.heap.objs.size → s0.heap.get? b = some o → h1.get? b = some o)) E) PySem.F.called_set.init.plain PySem.F.entry_set_init (check_set_init_1 ty0 ?_)) fun r2 z2 hz2 => ?_
    · obtain ⟨⟨lc, ld, lt, ls⟩, lo, c1, ln, c2⟩ := li
      simp only at c1 c2
      subst c1
      subst c2
      have lo' : (s0.heap.push (eS b)).get? l = some { cls := .type "list", dict := ld, data := .seq its ln, slots := ls } := Heap.get?_push_of_some _ lo
      have n1 := PySem.F.sub_list_set
      have n2 := PySem.F.sub_list_frozenset
      have n3 : (Value.type "list" == Value.type "dict") = false := by decide
      have li1 : (s0.heap.push (eS b)).IsList l its := ⟨_, lo', rfl, ln, rfl⟩
      unfold Builtin.«set.__init__» noKeywords Builtin.Frozenset.updateFrom
      generalize pz : pyIter = PZ
      wp_walk
      subst pz
      refine wpAny_pyIter_list li1 (wpAny_bind (wpAny_runValue ?_))
      have lLt : l < s0.heap.objs.size := Heap.lt_size lo
      have nh3 : B.in1.in1.in1.handled = none := by simp [nh]
      have lNe : l ≠ (s0.heap.push (eS b)).objs.size := by
        rw [Heap.size_push]
        exact Nat.ne_of_lt (Nat.lt_succ_of_lt lLt)
      have sNin : s0.heap.objs.size ∉ [(s0.heap.push (eS b)).objs.size, l] := by
        rw [Heap.size_push]
        simp only [List.mem_cons, List.mem_singleton, List.not_mem_nil, or_false, not_or]
        exact ⟨Nat.ne_of_lt (Nat.lt_succ_self _), Nat.ne_of_gt lLt⟩
      refine loop_txt ((Walks.list nh3 _ l lNe its).toS) s0.heap.objs.size sNin xs small (fun i v q => SS.strs_at ar i v (by rw [Array.getElem?_toList]; exact q)) (its.size - 0) 0 _ (by omega) (Nat.zero_le _) ⟨⟨_, Heap.get?_push_size _ rfl, rfl, rfl⟩, (li1.push _)⟩ ?setA ?setB
      case setA =>
        have at1 : ((s0.heap.push (eS b)).push { cls := .type "list_iterator", data := .fields #[.ref l, .int 0 0] }).get? s0.heap.objs.size = some (eS b) := Heap.get?_push_of_some _ at0
        exact SetOf_congr ((setObjOf_fresh (knd := strKind P w) b).setOf at1 (by unfold scanBound; omega)) (fun _ => by simp [fm]) rfl
      case setB =>
        rintro ⟨h1, g1, d1, tk1, os1⟩ mv hD
        obtain rfl : g1 = s0.gens := mv.gens
        obtain rfl : d1 = s0.drawn := mv.drawn
        obtain rfl : os1 = s0.os := mv.os
        show wpAny _ _ _ _ _ _
        refine wpAny_pure ?_
        show wpAny _ _ (ret Value.none) _ _ _
        refine wpAny_pure ⟨rfl, h1, tk1, rfl, hD, fun b o hb e => mv.heap b o ?_ (Heap.get?_push_of_some _ (Heap.get?_push_of_some _ e))⟩
        rw [Heap.size_push]
        simp only [List.mem_cons, List.mem_singleton, List.not_mem_nil, or_false, not_or]
        exact ⟨Nat.ne_of_lt hb, Nat.ne_of_lt (Nat.lt_succ_of_lt hb)⟩
    · match r2, hz2 with
      | .error e, hz2 => exact hz2
      | .ok (.ret v2), hz2 =>
        obtain ⟨rfl, h1, tk, rfl, hD, kp⟩ := hz2
        repeat (any_goals (first | assumption | wp_step))
        exact k _ _ hD kp
      | .ok .next, hz2 => exact hz2.elim
      | .ok .brk, hz2 => exact hz2.elim
      | .ok .cont, hz2 => exact hz2.elim
  | .ok .next, hz => exact hz.elim
  | .ok .brk, hz => exact hz.elim
  | .ok .cont, hz => exact hz.elim
end
end Ver
namespace L2
open PySem PySem.Spec PyProof.Rows
section
variable {X : Cx} {CX : CXT} {k : Nat} {f C : Addr} {fd : FuncData} {ps : List Str} {sp : Sp} {E : St → XK} {x : Str} {p1 p2 : Pos} {e : Expr} {es : List Expr} {t : TA}
/-- C(..) that may raise: the wish is taken at the slots -/
def tMakeS (C : Addr) (sp : Sp) (E : St → XK) (t : TA) : TE := fun σ H Q => t σ H fun vs Ha => ∀ y dy, Ha y = none → Ha dy = none → dy ≠ y →
  sp (.ref y :: vs) (upd (upd Ha dy (.own y)) y (.ins C dy [])) (fun v Hb => v = .non ∧ Q (.ref y) Hb) (E σ)
theorem run_mkS {pins : List (Addr × Obj)} {σ : St} {H : Hp} {s0 : Shared} {Q : VK} {us : List Value} {vs : List V} (M : Mk X.K C f) (F : FnOk X.prog X.w X.K X.mg X.base CX k f fd ps sp) (room : Room (k + 1) X.A) (bd : Binds X.K fd ps [])
    (out : PassesAt CX X σ (E σ)) (I : Inv X pins σ H s0) (rv : Vals vs us) (h : ∀ y dy, H y = none → H dy = none → dy ≠ y → sp (.ref y :: vs) (upd (upd H dy (.own y)) y (.ins C dy [])) (fun v Hb => v = .non ∧ Q (.ref y) Hb) (E σ)) :
    wpAny (model X.prog X.w) X.A (call (.ref C) us) (EP X pins σ Q) X.xe s0 := by
  have want := h (s0.heap.objs.size + 1) s0.heap.objs.size (I.hok.fresh (Nat.le_succ _)) (I.hok.fresh (Nat.le_refl _)) (Nat.ne_of_lt (Nat.lt_succ_self _))
  have Im := Inv.made (C := C) I
  have rv2 : Vals (V.ref (s0.heap.objs.size + 1) :: vs) (Value.ref (s0.heap.objs.size + 1) :: us) := .cons rfl rv
  have same : (Value.ref (s0.heap.objs.size + 1) :: us).length = ps.length := by
    have e := rv2.length
    rw [F.len _ _ _ _ want] at e
    exact e.symm
  have bd2 := bd _ (Value.ref (s0.heap.objs.size + 1) :: us) Im.kIn (by rw [List.append_nil]; exact same)
  rw [List.append_nil] at bd2
  refine wpAny_call (make_map (f := f) I.kIn M.makes M.init (beq_iff_eq.mp M.fn) (codeAny_mono (F.run _ X.stack _ _ ⟨Value.ref (s0.heap.objs.size + 1) :: us, []⟩ _ _ _ (E σ) (room.make C us []) (Im.env0.make C us []) bd2 rv2 want) fun r s1 got => ?_))
  match r, got with
  | .error er, got => exact out pins _ _ er s1 Im got
  | .ok (.ret u), got =>
    obtain ⟨v, Hb, I3, rz, ev, q⟩ := Im.after got
    subst ev
    exact ⟨rz, ⟨V.ref (s0.heap.objs.size + 1), Hb, I3, rfl, q⟩⟩
  | .ok .next, got => exact got.elim
  | .ok .brk, got => exact got.elim
  | .ok .cont, got => exact got.elim
theorem pe_makeS (M : Mk X.K C f) (F : FnOk X.prog X.w X.K X.mg X.base CX k f fd ps sp) (room : Room (k + 1) X.A) (gl : Gl X x) (mg : X.mg x = some (.ref C)) (bd : Binds X.K fd ps []) (out : ∀ σ, PassesAt CX X σ (E σ)) (ha : PA X (e :: es) t)
    (nd : (x == ("__debug__" : Str)) = false := by decide) (he : starEach (e :: es) X.env = (false, eval e X.env) :: starEach es X.env := by rfl) (hp : (backTo p2 (starEach es X.env)).any (·.1) = false := by rfl) :
    PE X (.Call (.Name x p1) (e :: es) [] p2) (tMakeS C sp E t) := by
  refine ⟨fun pins s0 σ H Q I h => wpAny_Call_Name_kw (ld_glob I gl mg ?_ nd)⟩
  refine PySem.W.callWith_K (h₀ := X.base) I.ok.mod.kin M.kp (thn (ha.run p2 pins s0 σ H _ I h) fun us s1 ⟨vs, Ha, I1, rv, q⟩ => ⟨I1.kIn, ?_⟩) he hp
  exact run_mkS M F room bd (out σ) I1 rv q
end
/-- len(set(xs)), xs a list of texts -/
def tSetN (K : PySem.W.Frag) (ta : TE) : TE := fun σ H Q => ta σ H fun x Ha => ∃ l, ∃ xs : List Str, x = .ref l ∧ SqL K Ha l (xs.map V.str) ∧ xs.length ≤ 1000 ∧ Q (.int (Ver.fm xs xs.length).length) Ha
theorem pe_setN {X : Cx} {a : Expr} {ta : TE} {p1 p2 p3 p4 : Pos} (hc : X.calm = true) (g1 : Gl X "len") (m1 : X.mg "len" = none) (g2 : Gl X "set") (m2 : X.mg "set" = none) (ha : PE X a ta)
    (na : starEach [a] X.env = (false, eval a X.env) :: starEach [] X.env := by rfl) : PE X (.Call (.Name "len" p1) [.Call (.Name "set" p2) [a] [] p3] [] p4) (tSetN X.K ta) := by
  refine ⟨fun pins s0 σ H Q I h => Call_ (ld_blt I g1 m1 boot_len ?_)⟩
  refine PyProof.Rows.callWith_builtin1 (PyProof.Rows.args_cons (Call_ (ld_blt I g2 m2 boot_set ?_)) rfl) rfl rfl
  refine PyProof.Rows.callWith_type1 (PyProof.Rows.args_cons (thn (ha.run pins s0 σ H _ I h) fun v s1 ⟨x, Ha, I1, rx, l, xs, ex, hL, hz, q⟩ => PyProof.Rows.args_nil ?_) na) na rfl
  subst ex
  cases rx
  obtain ⟨its, rv, li, _⟩ := I1.list hL
  have el : its.toArray.size = xs.length := by rw [List.size_toArray, ← rv.length, List.length_map]
  have sb : its.toArray.size + 1 < scanBound := by
    rw [el]
    unfold scanBound
    omega
  refine Ver.set_txt (I1.ok.hd hc) li.isList (by simpa using strsAre_of rv) sb fun h1 tk hD kp => PyProof.Rows.args_nil ?_
  rw [el] at hD
  obtain ⟨o, es, ep, t, ho, hx, hd, _, _, _, hf, hn⟩ := hD
  have I2 : Inv X pins σ Ha { s1 with heap := h1, toks := tk } := I1.kept fun b o e => kp b o (Heap.lt_size e) e
  have le := Ver.fm_le xs xs.length
  exact call_len_set ho hx hd hf (by rw [hn]; omega) ⟨.int (Ver.fm xs xs.length).length, Ha, I2.tok _, ⟨_, by rw [hn]⟩, q⟩
end L2
namespace Ver
open PySem PySem.Spec PyProof.Rows L2 Evl
theorem setNK (K : PySem.W.Frag) {X : Cx} {a : Expr} {ta : TE} {p1 p2 p3 p4 : Pos} (hc : X.calm = true) (g1 : Gl X "len") (m1 : X.mg "len" = none) (g2 : Gl X "set") (m2 : X.mg "set" = none) (ha : PE X a ta)
    (na : starEach [a] X.env = (false, eval a X.env) :: starEach [] X.env := by rfl) (h : X.K = K := by rfl) : PE X (.Call (.Name "len" p1) [.Call (.Name "set" p2) [a] [] p3] [] p4) (tSetN K ta) := by
  subst h
  exact pe_setN hc g1 m1 g2 m2 ha na
end Ver
namespace Ver
open PySem PySem.Spec PyProof.Rows L2 Evl
section
variable {K : PySem.W.Frag}
def NewS (C : Addr) (sp : Sp) (E : XK) (vs : List V) (H : Hp) (Q : VK) : Prop := ∀ y dy, H y = none → H dy = none → dy ≠ y → sp (.ref y :: vs) (upd (upd H dy (.own y)) y (.ins C dy [])) (fun v Hb => v = .non ∧ Q (.ref y) Hb) E
theorem w_newS {σ : L2.St} {H : Hp} {C : Addr} {sp : Sp} {E : L2.St → XK} {t : TA} {Q : VK} (h : t σ H fun vs Ha => NewS C sp (E σ) vs Ha Q) : tMakeS C sp E t σ H Q := h
theorem a_newS {H : Hp} {C : Addr} {sp : Sp} {E : XK} {vs : List V} {Q : VK} (k : ∀ x dx H1, H x = none → H dx = none → dx ≠ x → Ex H H1 → H1 x = some (.ins C dx []) → H1 dx = some (.own x) → sp (.ref x :: vs) H1 (fun v H2 => v = .non ∧ Q (.ref x) H2) E) : NewS C sp E vs H Q := fun x dx n1 n2 n3 =>
  k x dx _ n1 n2 n3 ((Ex.new n2).mut n1) upd_same (by rw [upd_ne n3, upd_same])
def Xf (a : Addr) (cls : Value) (d : Option Addr) (C : Addr) (f : Str) (x : V) (H : Hp) (Q : VK) : Prop := x = .ref a ∧ cls = .ref C ∧ ∃ (dd : Addr) (fs : List (Str × V)) (v : V), d = some dd ∧ H dd = some (.xd fs) ∧ fs.lookup f = some v ∧ Q v H
theorem w_xf {σ : L2.St} {H : Hp} {a C : Addr} {cls : Value} {d : Option Addr} {f : Str} {te : TE} {Q : VK} (h : te σ H fun x Ha => Xf a cls d C f x Ha Q) : tXf a cls d C f te σ H Q := h
/-- two new places of a heap, left out again -/
theorem ex_two {H H1 : Hp} {x y : Addr} (n1 : H x = none) (n2 : H y = none) (e : Ex H H1) : Ex H (dl [x, y] H1) := fun b o z => by
  rw [dl_nin (by
    intro k
    rcases List.mem_cons.mp k with k | k
    · rw [k, n1] at z; cases z
    rcases List.mem_cons.mp k with k | k
    · rw [k, n2] at z; cases z
    · cases k)]
  exact e b o z
/-- a function as the law tells it -/
def fdat (f : FD) : PyData := .list [f.n, .list f.p, .list f.b]
theorem dpa_three {G : Hp} {xs : List V} {a b c : PyData} (h : DpAll K G xs [a, b, c]) : ∃ u v w, xs = [u, v, w] ∧ Dp K G u a ∧ Dp K G v b ∧ Dp K G w c := by
  match h with
  | .cons h1 (.cons h2 (.cons h3 .nil)) => exact ⟨_, _, _, rfl, h1, h2, h3⟩
theorem ds_fdat {G : Hp} {v : V} {f : FD} (h : Ds K G v (fdat f)) : ∃ p u q r, v = .ref p ∧ SqL K G p [u, .ref q, .ref r] ∧ Ds K G u f.n ∧ Dl K G q f.p ∧ Dl K G r f.b := by
  obtain ⟨p, xs, ds, rfl, e, hL, hD, hs, _, _⟩ := ds_lst h rfl
  cases e
  obtain ⟨u, v, w, rfl, d1, d2, d3⟩ := dpa_three hD
  have s0 := sm_at (i := 0) hs rfl
  have s1 := sm_at (i := 1) hs rfl
  have s2 := sm_at (i := 2) hs rfl
  obtain ⟨q, x1, _, rfl, e1, l1, k1, m1, z1, _⟩ := ds_lst (⟨d2, s1⟩ : Ds K G v (.list f.p)) rfl
  cases e1
  obtain ⟨r, x2, _, rfl, e2, l2, k2, m2, z2, _⟩ := ds_lst (⟨d3, s2⟩ : Ds K G w (.list f.b)) rfl
  cases e2
  exact ⟨p, u, q, r, rfl, hL, ⟨d1, s0⟩, ⟨⟨x1, l1, k1⟩, m1, z1⟩, ⟨⟨x2, l2, k2⟩, m2, z2⟩⟩
end
end Ver
set_option Elab.async false
set_option linter.all false
set_option maxRecDepth 100000
set_option maxHeartbeats 4000000
namespace Ver
open PySem PySem.Spec PyProof.Rows L2 Evl
structure SB (s : RS) : Prop where
  t : s.th.length ≤ 4 * s.n
  b : s.br.length ≤ 24 * s.n
  n : s.n ≤ 1000
def exC (cl : CL) (c : Sc) (s : RS) (f : Str) (ss : List Src) : Out × RS := match gvs s.th c ss with
  | (b, none) => (.stop, ⟨s.th, s.br ++ b, s.n⟩)
  | (b, some vs) => cl f vs ⟨s.th, s.br ++ b, s.n⟩
def VSd (ths : List Thg) (S : List R) : Vl → Prop
  | .th m => ∃ t : Thg, ths[m]? = some t ∧ cv t.T S = true
  | _ => True
def ThSd (ths : List Thg) : Prop := ∀ t ∈ ths, VSd ths (t.T.drop 1) t.v
theorem VSd.gr {a b : List Thg} {S : List R} {v : Vl} (h : VSd a S v) (g : Gr a b) : VSd b S v := by
  cases v with
  | num n => trivial
  | nul => trivial
  | th m =>
    obtain ⟨t, h1, h2⟩ := h
    obtain ⟨t', e, q⟩ := g m t h1
    exact ⟨t', e, by rw [q]; exact h2⟩
def VSds (ths : List Thg) : List (Str × List R) → List Vl → Prop
  | q :: ps, v :: vs => VSd ths (q.2.drop 1) v ∧ VSds ths ps vs
  | _, _ => True
theorem VSds.gr {a b : List Thg} (g : Gr a b) : ∀ {ps : List (Str × List R)} {vs : List Vl}, VSds a ps vs → VSds b ps vs
  | [], _, _ => trivial
  | _ :: _, [], _ => trivial
  | _ :: _, _ :: _, k => ⟨k.1.gr g, VSds.gr g k.2⟩
theorem ThSd.add {ths : List Thg} (h : ThSd ths) {x : Str} {T : List R} {v : Vl} (k : VSd ths (T.drop 1) v) : ThSd (ths ++ [⟨x, T, v⟩]) := fun t ht => by
  rcases List.mem_append.mp ht with ht | ht
  · exact (h t ht).gr (Gr.app _ _)
  · cases List.mem_singleton.mp ht
    exact k.gr (Gr.app _ _)
theorem ThSd.set {ths : List Thg} (h : ThSd ths) {m : Nat} {t : Thg} (e : ths[m]? = some t) {v : Vl} (k : VSd ths (t.T.drop 1) v) : ThSd (ths.set m ⟨t.x, t.T, v⟩) := fun u hu => by
  have g := Gr.set ths m e v
  obtain ⟨i, hi⟩ := List.getElem?_of_mem hu
  by_cases c : m = i
  · subst c
    rw [List.getElem?_set_self (at_lt e)] at hi
    cases hi
    exact k.gr g
  · rw [List.getElem?_set_ne c] at hi
    exact (h u (List.mem_of_getElem? hi)).gr g
end Ver
set_option Elab.async false
set_option linter.all false
set_option maxRecDepth 100000
set_option maxHeartbeats 4000000
namespace Ver
open PySem PySem.Spec PyProof.Rows L2 Evl
section
variable {K : PySem.W.Frag}
abbrev MX (z md br sd : Addr) : List Addr := [z, md, br, sd]
structure XC (K : PySem.W.Frag) (CS CF : Addr) (H : Hp) (z md br sc sd pd : Addr) (fs r : List TF) (c : Sc) (N : Nat) (e : Env) (s : RS) : Prop where
  sa : SA K CS H z md br sc s
  dd : ScD H sd c N
  fn : FnD K CF (dl (MX z md br sd) H) pd fs
  sub : ∀ g ∈ r, g ∈ fs
  sh : FnSh r
  fo : ∀ g ∈ r, FOk g
  th : ThSh s.th
  ss : ScSh s.th c e
  nN : N ≤ 70000
theorem XC.ne {CS CF : Addr} {H : Hp} {z md br sc sd pd : Addr} {fs r : List TF} {c : Sc} {N : Nat} {e : Env} {s : RS} (x : XC K CS CF H z md br sc sd pd fs r c N e s) : sd ≠ z ∧ sd ≠ md ∧ sd ≠ br := x.dd.ne x.sa
theorem w_lcX {wi : TI} {g : TG} {tt : TT} {te : XK → TE} {W : WX} {vs : List Nat} {σ : L2.St} {H : Hp} {Q : VK} (h : tLc wi g tt (te fun c d H' => W c d σ H') vs σ H Q) : tLcX wi g tt te W vs σ H Q := h
end
end Ver
set_option Elab.async false
set_option linter.all false
set_option maxRecDepth 100000
set_option maxHeartbeats 4000000
namespace Ver
open PySem PySem.Spec PyProof.Rows L2 Evl
section
variable {K : PySem.W.Frag}
def mcF (xa fa bn sa ta : Addr) : List (Str × V) := putF "_states" (.ref ta) (putF "_statements" (.ref sa) (putF "_by_name" (.ref bn) (putF "_functions" (.ref fa) (putF "_extra" (.ref xa) []))))
inductive StAll (K : PySem.W.Frag) (CS : Addr) (H : Hp) : Nat → List V → List (RS × Sc) → Prop
  | nil {n : Nat} : StAll K CS H n [] []
  | cons {n : Nat} {z md br sc : Addr} {s : RS} {c : Sc} {zs : List V} {ss : List (RS × Sc)} : SA K CS H z md br sc s → ScD H sc c n → StAll K CS H (n + 1) zs ss → StAll K CS H n (.ref z :: zs) ((s, c) :: ss)
theorem StAll.up {CS : Addr} {H H1 : Hp} (e : Ex H H1) : ∀ {n : Nat} {zs : List V} {ss : List (RS × Sc)}, StAll K CS H n zs ss → StAll K CS H1 n zs ss
  | _, _, _, .nil => .nil
  | _, _, _, .cons a b t => .cons (a.ex e) (b.ex e) (t.up e)
theorem StAll.len {CS : Addr} {H : Hp} : ∀ {n : Nat} {zs : List V} {ss : List (RS × Sc)}, StAll K CS H n zs ss → zs.length = ss.length
  | _, _, _, .nil => rfl
  | _, _, _, .cons _ _ t => congrArg (· + 1) t.len
structure MA (K : PySem.W.Frag) (CM CS CF : Addr) (H : Hp) (m xa fa bn sa ta : Addr) (fs : List TF) (ex : List (List R × List R)) (ps : List Stm) (sts : List (RS × Sc)) : Prop where
  o : ∃ dx, H m = some (.ins CM dx (mcF xa fa bn sa ta))
  x : XL K (dl [sa, ta] H) xa ex
  f : ∃ ws, (dl [sa, ta] H) fa = some (.lst ws) ∧ FnAll K CF (dl [sa, ta] H) ws (fs.map TF.fd)
  b : FnD K CF (dl [sa, ta] H) bn fs
  s : ∃ xs, H sa = some (.lst xs) ∧ DpAll K (dl [sa, ta] H) xs (ps.map stD)
  t : ∃ zs, H ta = some (.lst zs) ∧ StAll K CS (dl [sa, ta] H) 0 zs sts
  d : sa ≠ ta
theorem MA.ex {CM CS CF : Addr} {H H1 : Hp} {m xa fa bn sa ta : Addr} {fs : List TF} {ex : List (List R × List R)} {ps : List Stm} {sts : List (RS × Sc)} (h : MA K CM CS CF H m xa fa bn sa ta fs ex ps sts) (e : Ex H H1) : MA K CM CS CF H1 m xa fa bn sa ta fs ex ps sts where
  o := by
    obtain ⟨dx, g⟩ := h.o
    exact ⟨dx, e _ _ g⟩
  x := h.x.up (dl_ex e)
  f := by
    obtain ⟨ws, g1, g2⟩ := h.f
    exact ⟨ws, dl_ex e _ _ g1, g2.up (dl_ex e)⟩
  b := h.b.up (dl_ex e)
  s := by
    obtain ⟨xs, g1, g2⟩ := h.s
    exact ⟨xs, e _ _ g1, dpa_ex (dl_ex e) g2⟩
  t := by
    obtain ⟨zs, g1, g2⟩ := h.t
    exact ⟨zs, e _ _ g1, g2.up (dl_ex e)⟩
  d := h.d
theorem im_dl {S : List Addr} {H : Hp} (h : ∀ a ∈ S, ∀ o, H a = some o → isT o = false) : Ex (Im H) (Im (dl S H)) := fun a o e => by
  obtain ⟨e1, e2⟩ := im_of e
  refine im_at (dl_at (fun m => ?_) e1) e2
  rw [h a m o e1] at e2
  cases e2
theorem SA.dl {CS : Addr} {S : List Addr} {H : Hp} {z md br sc : Addr} {s : RS} (a : SA K CS H z md br sc s) (h : ∀ a ∈ S, ∀ o, H a = some o → isT o = false) (n : z ∉ S ∧ md ∉ S ∧ br ∉ S) : SA K CS (Ver.dl S H) z md br sc s where
  o := by
    obtain ⟨dx, e⟩ := a.o
    exact ⟨dx, dl_at n.1 e⟩
  m := by
    obtain ⟨xs, e, d⟩ := a.m
    exact ⟨xs, dl_at n.2.1 e, dpa_ex (im_dl h) d⟩
  b := by
    obtain ⟨xs, e, d⟩ := a.b
    exact ⟨xs, dl_at n.2.2 e, dpa_ex (im_dl h) d⟩
  d := a.d
end
end Ver
set_option Elab.async false
set_option linter.all false
set_option maxRecDepth 100000
namespace Ver
open PySem PySem.Spec PyProof.Rows L2 Evl
theorem bd_0 {fn : FuncData} {ps : List Str} {us : List Value} (hl : us.length = ps.length) (h : ps.length = 0) (k : bindArgs fn ⟨[], []⟩ = pure (ps.zip [])) : bindArgs fn ⟨us, []⟩ = pure (ps.zip us) := us_0 (P := fun us => bindArgs fn ⟨us, []⟩ = pure (ps.zip us)) (hl.trans h) k
theorem bd_1 {fn : FuncData} {ps : List Str} {us : List Value} (hl : us.length = ps.length) (h : ps.length = 1) (k : ∀ a, bindArgs fn ⟨[a], []⟩ = pure (ps.zip [a])) : bindArgs fn ⟨us, []⟩ = pure (ps.zip us) := us_1 (P := fun us => bindArgs fn ⟨us, []⟩ = pure (ps.zip us)) (hl.trans h) k
theorem bd_2 {fn : FuncData} {ps : List Str} {us : List Value} (hl : us.length = ps.length) (h : ps.length = 2) (k : ∀ a b, bindArgs fn ⟨[a, b], []⟩ = pure (ps.zip [a, b])) : bindArgs fn ⟨us, []⟩ = pure (ps.zip us) := us_2 (P := fun us => bindArgs fn ⟨us, []⟩ = pure (ps.zip us)) (hl.trans h) k
theorem bd_3 {fn : FuncData} {ps : List Str} {us : List Value} (hl : us.length = ps.length) (h : ps.length = 3) (k : ∀ a b c, bindArgs fn ⟨[a, b, c], []⟩ = pure (ps.zip [a, b, c])) : bindArgs fn ⟨us, []⟩ = pure (ps.zip us) := us_3 (P := fun us => bindArgs fn ⟨us, []⟩ = pure (ps.zip us)) (hl.trans h) k
theorem bd_4 {fn : FuncData} {ps : List Str} {us : List Value} (hl : us.length = ps.length) (h : ps.length = 4) (k : ∀ a b c d, bindArgs fn ⟨[a, b, c, d], []⟩ = pure (ps.zip [a, b, c, d])) : bindArgs fn ⟨us, []⟩ = pure (ps.zip us) := us_4 (P := fun us => bindArgs fn ⟨us, []⟩ = pure (ps.zip us)) (hl.trans h) k
theorem bd_5 {fn : FuncData} {ps : List Str} {us : List Value} (hl : us.length = ps.length) (h : ps.length = 5) (k : ∀ a b c d e, bindArgs fn ⟨[a, b, c, d, e], []⟩ = pure (ps.zip [a, b, c, d, e])) : bindArgs fn ⟨us, []⟩ = pure (ps.zip us) := us_5 (P := fun us => bindArgs fn ⟨us, []⟩ = pure (ps.zip us)) (hl.trans h) k
end Ver
set_option Elab.async false
set_option linter.all false
set_option maxRecDepth 100000
set_option maxHeartbeats 4000000
namespace Ver
open PySem PySem.Spec PyProof.Rows L2 Evl
section
variable {K : PySem.W.Frag} {σ : L2.St} {H : Hp} {te ta tb : TE} {t : TA} {d : PyData} {ds es : List PyData} {i : Nat}
variable {S : List Addr}
def EvD (K : PySem.W.Frag) (S : List Addr) (σ : L2.St) (H : Hp) (te : TE) (d : PyData) : Prop := ∀ H0, Ex H H0 → ∀ Q : VK, (∀ v H1, Ex H0 H1 → Dp K (dl S H1) v d → Q v H1) → te σ H0 Q
def EvL (K : PySem.W.Frag) (S : List Addr) (σ : L2.St) (H : Hp) (te : TE) (ds : List PyData) : Prop := ∀ H0, Ex H H0 → ∀ Q : VK, (∀ p vs H1, Ex H0 H1 → p ∉ S → H1 p = some (.lst vs) → DpAll K (dl S H1) vs ds → Q (.ref p) H1) → te σ H0 Q
def EvA (K : PySem.W.Frag) (S : List Addr) (σ : L2.St) (H : Hp) (t : TA) (ds : List PyData) : Prop := ∀ H0, Ex H H0 → ∀ Q : List V → Hp → Prop, (∀ vs H1, Ex H0 H1 → DpAll K (dl S H1) vs ds → Q vs H1) → t σ H0 Q
theorem ev_var {v : V} (e : σ[i]? = some (some v)) (h : Dp K (dl S H) v d) : EvD K S σ H (tVar i) d := fun H0 e0 Q k => ⟨v, e, k v H0 (Ex.refl _) (dp_ex (dl_ex e0) h)⟩
theorem ev_str {x : Str} : EvD K S σ H (tC (.str x)) (.str x) := fun H0 _ Q k => k _ H0 (Ex.refl _) (.str x)
theorem ev_int {x : Int} : EvD K S σ H (tC (.int x)) (.int x) := fun H0 _ Q k => k _ H0 (Ex.refl _) (.int x)
theorem ev_bl {x : Bool} : EvD K S σ H (tC (.bl x)) (.bool x) := fun H0 _ Q k => k _ H0 (Ex.refl _) (.bl x)
theorem ev_non : EvD K S σ H (tC .non) .none := fun H0 _ Q k => k _ H0 (Ex.refl _) .non
theorem ev_nil : EvA K S σ H tNil [] := fun H0 _ Q k => k [] H0 (Ex.refl _) .nil
theorem ev_cons (h : EvD K S σ H te d) (g : EvA K S σ H t ds) : EvA K S σ H (tCons te t) (d :: ds) := fun H0 e0 Q k =>
  h H0 e0 _ fun v H1 e1 dv => g H1 (e0.trans e1) _ fun vs H2 e2 dvs => k (v :: vs) H2 (e1.trans e2) (.cons (dp_ex (dl_ex e2) dv) dvs)
theorem ev_lst (al : Al S H) (h : EvA K S σ H t ds) (z : ds.length ≤ 100000) : EvL K S σ H (tLst t) ds := fun H0 e0 Q k =>
  h H0 e0 _ fun vs H1 e1 dvs => new_lst (by rw [dpa_len dvs]; exact z) fun p H2 n e2 f => k p vs H2 (e1.trans e2) ((al.ex (e0.trans e1)).nin n) f (dpa_ex (dl_ex e2) dvs)
theorem ev_ll (h : EvL K S σ H te ds) : EvD K S σ H te (.list ds) := fun H0 e0 Q k => h H0 e0 _ fun p vs H1 e1 np f dvs => k _ H1 e1 (.lst (SqL.of (dl_at np f)) dvs)
theorem ev_tup (al : Al S H) (h : EvA K S σ H t ds) (z : ds.length ≤ 100000) : EvD K S σ H (tTup t) (.tuple ds) := fun H0 e0 Q k =>
  h H0 e0 _ fun vs H1 e1 dvs => new_tup (by rw [dpa_len dvs]; exact z) fun p H2 n e2 f => k _ H2 (e1.trans e2) (.tup (SqT.of (dl_at ((al.ex (e0.trans e1)).nin n) f)) (dpa_ex (dl_ex e2) dvs))
theorem dpa_rep {G : Hp} {vs : List V} (h : DpAll K G vs ds) : ∀ n : Nat, DpAll K G (List.replicate n vs).flatten (List.replicate n ds).flatten
  | 0 => .nil
  | n + 1 => by
    rw [List.replicate_succ, List.replicate_succ, List.flatten_cons, List.flatten_cons]
    exact dpa_app h (dpa_rep h n)
/-- [a] * n -/
theorem ev_rep {n : Nat} (al : Al S H) (h : EvL K S σ H ta [d]) (e : σ[i]? = some (some (.int n))) (z : n ≤ 1000) : EvL K S σ H (tOp rRep ta (tVar i)) (List.replicate n d) := fun H0 e0 Q k =>
  h H0 e0 _ fun p vs H1 e1 _ f1 d1 => ⟨.int n, e, p, n, vs, rfl, rfl, f1, by omega, by omega, by
    rw [dpa_len d1, Int.toNat_natCast]
    exact sz_of (by simp; omega), fun q nq => by
    rw [Int.toNat_natCast]
    have x := dpa_rep d1 n
    have y : (List.replicate n [d]).flatten = List.replicate n d := by
      rw [List.flatten_replicate_singleton]
    rw [y] at x
    exact k q _ _ (e1.trans (Ex.new nq)) ((al.ex (e0.trans e1)).nin nq) upd_same (dpa_ex (dl_ex (Ex.new nq)) x)⟩
/-- a value that needs no heap -/
theorem ev_b {b : Bool} (h : ∀ (H0 : Hp) (Q : VK), Q (.bl b) H0 → te σ H0 Q) : EvD K S σ H te (.bool b) := fun H0 _ Q k => h H0 Q (k _ H0 (Ex.refl _) (.bl b))
/-- many < m -/
theorem ev_lt {a m : Int} (e : σ[i]? = some (some (.int a))) : EvD K S σ H (tOp (rI0 fun i j => .bl (decide (i < j))) (tVar i) (tC (.int m))) (.bool (decide (a < m))) := ev_b fun H0 Q q => ⟨.int a, e, a, m, rfl, rfl, q⟩
theorem ev_call {sp : Sp} {E : XK} (h : EvA K S σ H t ds) (al : Al S H) (c : ∀ (H0 : Hp) (vs : List V) (Q : VK), Al S H0 → DpAll K (dl S H0) vs ds → (∀ v H1, Ex H0 H1 → Dp K (dl S H1) v d → Q v H1) → sp vs H0 Q E) : EvD K S σ H (tCall sp [] E t) d := fun H0 e0 Q k =>
  w_callN (h H0 e0 _ fun vs H1 e1 dvs => c H1 vs Q (al.ex (e0.trans e1)) dvs fun v H2 e2 dv => k v H2 (e1.trans e2) dv)
/-- an inner list of a heap, apart from out -/
def LsAt (K : PySem.W.Frag) (po : Addr) (H : Hp) (p : Addr) (ds : List PyData) : Prop := p ≠ po ∧ ∃ vs, H p = some (.lst vs) ∧ DpAll K (dl [po] H) vs ds
theorem LsAt.dp {po p : Addr} (h : LsAt K po H p ds) : Dp K (dl [po] H) (.ref p) (.list ds) := by
  obtain ⟨n, vs, f, D⟩ := h
  exact .lst (SqL.of (dl_at (by simpa using n) f)) D
theorem LsAt.up {po pq p : Addr} {H' : Hp} (h : LsAt K po H p ds) (e : Ex (dl [po] H) (dl [pq] H')) : LsAt K pq H' p ds := by
  obtain ⟨n, vs, f, D⟩ := h
  have g := e _ _ (dl_at (by simpa using n) f)
  by_cases z : p ∈ [pq]
  · rw [dl_in z] at g
    cases g
  · rw [dl_nin z] at g
    exact ⟨fun y => z (by rw [y]; simp), vs, g, dpa_ex e D⟩
end
/-- what _law_let makes -/
def letD (x T : PyData) : PyData := .tuple [.str "let", x, T, if (PyData.eqv T (.tuple [.str "rw"]) || PyData.eqv T (.int 0)) = true then .tuple [.str "number", .int 0] else .tuple [.str "null"]]
def pLet (K : PySem.W.Frag) : Sp := fun vs H Q _ => ∃ S x v T, vs = [.str x, v] ∧ Al S H ∧ Dp K (dl S H) v T ∧ SeqAt.shaped T = true ∧ ∀ u H1, Ex H H1 → Dp K (dl S H1) u (letD (.str x) T) → Q u H1
theorem ev_let {K : PySem.W.Frag} {S : List Addr} {σ : L2.St} {H : Hp} {t : TA} {x : Str} {T : PyData} {E : XK} (al : Al S H) (h : EvA K S σ H t [.str x, T]) (s : SeqAt.shaped T = true) : EvD K S σ H (tCall (pLet K) [] E t) (letD (.str x) T) := ev_call h al fun H0 vs Q al2 dvs k => by
  match vs, dvs with
  | [_, _], .cons h1 (.cons h2 .nil) =>
    cases dp_str h1
    exact ⟨S, x, _, T, rfl, al2, h2, s, k⟩
end Ver
set_option Elab.async false
set_option linter.all false
set_option maxRecDepth 100000
set_option maxHeartbeats 4000000
set_option Elab.async false
set_option linter.all false
set_option maxRecDepth 100000
set_option maxHeartbeats 4000000
set_option Elab.async false
set_option linter.all false
set_option maxRecDepth 100000
set_option maxHeartbeats 4000000
namespace Ver
open PySem PySem.Spec PyProof.Rows L2 Evl
def nmG (a : String) : List Str := ["u", "v", "x", "y", "z"].map fun b => Str.ofString (a ++ b)
def NM : List Str := nmG "a" ++ nmG "b" ++ nmG "c" ++ nmG "d" ++ nmG "e" ++ nmG "f" ++ nmG "g" ++ nmG "h"
theorem nm_nd : NM.Nodup := by decide +kernel
theorem nm_ok : ∀ x ∈ NM, nmO x := by
  have : NM.all (fun x => nameD (.str x)) = true := by decide +kernel
  exact fun x hx => List.all_eq_true.mp this x hx
theorem nm_fa : ("fa" : Str) ∉ NM := by decide +kernel
theorem nm_fb : ("fb" : Str) ∉ NM := by decide +kernel
theorem o_fa : nmO "fa" := by show nameD (.str "fa") = true; decide +kernel
theorem o_fb : nmO "fb" := by show nameD (.str "fb") = true; decide +kernel
theorem o_zz : nmO "zz" := by show nameD (.str "zz") = true; decide +kernel
section
variable {K : PySem.W.Frag}
/-- the names that are known, and their types -/
def Kn (xs : List Str) (e : Env) : Prop := ∀ x ∈ xs, nmO x ∧ ∃ T, e x = some T ∧ 1 ≤ T.length ∧ T.length ≤ 4
theorem Kn.put {xs : List Str} {e : Env} (h : Kn xs e) {x : Str} (o : nmO x) {T : List R} (t : 1 ≤ T.length ∧ T.length ≤ 4) : Kn (xs ++ [x]) (e.put x T) := fun y hy => by
  unfold Env.put
  by_cases c : y = x
  · rw [if_pos c, c]
    exact ⟨o, T, rfl, t⟩
  · rw [if_neg c]
    rcases List.mem_append.mp hy with hy | hy
    · exact h y hy
    · exact absurd (List.mem_singleton.mp hy) c
/-- what a drawing goes on -/
structure GS (K : PySem.W.Frag) (S : List Addr) (H : Hp) (b r pf pn pt : Addr) (fr xs : List Str) (e : Env) (n : Nat) : Prop where
  bx : Bx H b r
  f : H pf = some (.lst (fr.map V.str))
  nm : H pn = some (.lst (xs.map V.str))
  t : TyN K S H pt e n
  m : b ∈ S ∧ pf ∈ S ∧ pn ∈ S ∧ pt ∈ S
  al : Al S H
  rn : r ∉ S
  d1 : b ≠ pf ∧ b ≠ pn ∧ b ≠ pt
  d2 : pf ≠ pn ∧ pf ≠ pt ∧ pn ≠ pt
  kn : Kn xs e
  xl : xs.length ≤ n
  fo : ∀ x ∈ fr, nmO x
theorem Al.ks {S M : List Addr} {H H1 : Hp} (h : Al S H) (k : Ks M H H1) (bm : ∀ a ∈ M, H1 a ≠ none) : Al S H1 := fun a ha n => by
  by_cases c : a ∈ M
  · exact bm a c n
  · cases q : H a with
    | none => exact h a ha q
    | some o =>
      rw [k a o c q] at n
      cases n
theorem bx_some {H : Hp} {b r : Addr} (h : Bx H b r) : H b ≠ none ∧ H r ≠ none := by
  obtain ⟨n, ns, h1, h2, _⟩ := h
  rw [h1, h2]
  exact ⟨fun z => (by cases z), fun z => (by cases z)⟩
theorem Al.bx {S : List Addr} {H H1 : Hp} {b r : Addr} (h : Al S H) (k : Ks [b] H H1) (bx : Bx H1 b r) : Al S H1 := h.ks k fun a ha => by
  rw [List.mem_singleton] at ha
  rw [ha]
  exact (bx_some bx).1
theorem Al.add {S : List Addr} {H H1 : Hp} {p : Addr} {o : HO} (h : Al S H) (e : Ex H H1) (f : H1 p = some o) : Al (p :: S) H1 := (h.ex e).cons f
/-- behind a draw -/
theorem GS.draw {S : List Addr} {H H1 : Hp} {b r pf pn pt : Addr} {fr xs : List Str} {e : Env} {n : Nat} (h : GS K S H b r pf pn pt fr xs e n) (k : Ks [b] H H1) (bx : Bx H1 b r) : GS K S H1 b r pf pn pt fr xs e n where
  bx := bx
  f := k _ _ (by simpa using h.d1.1.symm) h.f
  nm := k _ _ (by simpa using h.d1.2.1.symm) h.nm
  t := h.t.ks k (fun a ha => by rw [List.mem_singleton] at ha; rw [ha]; exact h.m.1) (by simpa using h.d1.2.2.symm)
  m := h.m
  al := h.al.bx k bx
  rn := h.rn
  d1 := h.d1
  d2 := h.d2
  kn := h.kn
  xl := h.xl
  fo := h.fo
theorem GS.ex {S : List Addr} {H H1 : Hp} {b r pf pn pt : Addr} {fr xs : List Str} {e : Env} {n : Nat} (h : GS K S H b r pf pn pt fr xs e n) (k : Ex H H1) : GS K S H1 b r pf pn pt fr xs e n := h.draw (Ks.of k) (bx_ex h.bx k)
theorem GS.grow {S : List Addr} {H H1 : Hp} {b r pf pn pt p : Addr} {fr xs : List Str} {e : Env} {n : Nat} {o : HO} (h : GS K S H b r pf pn pt fr xs e n) (q : H p = none) (k : Ex H H1) (f : H1 p = some o) : GS K (p :: S) H1 b r pf pn pt fr xs e n where
  bx := bx_ex h.bx k
  f := k _ _ h.f
  nm := k _ _ h.nm
  t := h.t.grow q k
  m := ⟨List.mem_cons_of_mem _ h.m.1, List.mem_cons_of_mem _ h.m.2.1, List.mem_cons_of_mem _ h.m.2.2.1, List.mem_cons_of_mem _ h.m.2.2.2⟩
  al := h.al.add k f
  rn := nin_cons (bx_nr h.bx q) h.rn
  d1 := h.d1
  d2 := h.d2
  kn := h.kn
  xl := h.xl
  fo := h.fo
/-- what is there stays but for the four -/
abbrev M4 (b pf pn pt : Addr) : List Addr := [b, pf, pn, pt]
theorem GS.m4 {S : List Addr} {H : Hp} {b r pf pn pt : Addr} {fr xs : List Str} {e : Env} {n : Nat} (h : GS K S H b r pf pn pt fr xs e n) : ∀ a ∈ M4 b pf pn pt, a ∈ S := fun a ha => by
  obtain ⟨h1, h2, h3, h4⟩ := h.m
  simp only [List.mem_cons, List.not_mem_nil, or_false] at ha
  rcases ha with rfl | rfl | rfl | rfl <;> assumption
theorem ks_b4 {H H1 : Hp} {b pf pn pt : Addr} (k : Ks [b] H H1) : Ks (M4 b pf pn pt) H H1 := k.mono (by simp)
theorem Dp.in {S : List Addr} {H : Hp} {p : Addr} {xs : List V} {ds : List PyData} (f : H p = some (.tup xs)) (n : p ∉ S) (d : DpAll K (dl S H) xs ds) : Dp K (dl S H) (.ref p) (.tuple ds) := .tup (SqT.of (dl_at n f)) d
theorem Dp.inL {S : List Addr} {H : Hp} {p : Addr} {xs : List V} {ds : List PyData} (f : H p = some (.lst xs)) (n : p ∉ S) (d : DpAll K (dl S H) xs ds) : Dp K (dl S H) (.ref p) (.list ds) := .lst (SqL.of (dl_at n f)) d
theorem GS.pop {S : List Addr} {H : Hp} {b r pf pn pt : Addr} {x : Str} {fr xs : List Str} {e : Env} {n : Nat} (h : GS K S H b r pf pn pt (x :: fr) xs e n) : GS K S (upd H pf (.lst (fr.map V.str))) b r pf pn pt fr xs e n where
  bx := bx_ks (S := [pf]) h.bx ((Ks.refl _ _).upd (by simp)) (by simpa using h.d1.1) (fun z => h.rn (by rw [List.mem_singleton] at z; rw [z]; exact h.m.2.1))
  f := upd_same
  nm := by rw [upd_ne h.d2.1.symm]; exact h.nm
  t := h.t.ks (M := [pf]) ((Ks.refl _ _).upd (by simp)) (fun a ha => by rw [List.mem_singleton] at ha; rw [ha]; exact h.m.2.1) (by simpa using h.d2.2.1.symm)
  m := h.m
  al := h.al.upd
  rn := h.rn
  d1 := h.d1
  d2 := h.d2
  kn := h.kn
  xl := h.xl
  fo := fun y hy => h.fo y (List.mem_cons_of_mem _ hy)
/-- a new variable: names.append(x), types[x] = T -/
theorem GS.add {S M : List Addr} {H H2 : Hp} {b r pf pn pt : Addr} {x : Str} {fr xs : List Str} {e : Env} {n : Nat} {T : List R} (h : GS K S H b r pf pn pt fr xs e n) (k : Ks M H H2) (mb : b ∉ M) (mf : pf ∉ M) (mS : ∀ a ∈ M, a ∈ S) (mal : ∀ a ∈ M, H2 a ≠ none) (ft : TyN K S H2 pt (e.put x T) (n + 1)) (fn : H2 pn = some (.lst ((xs ++ [x]).map V.str)))
    (o : nmO x) (t : 1 ≤ T.length ∧ T.length ≤ 4) : GS K S H2 b r pf pn pt fr (xs ++ [x]) (e.put x T) (n + 1) where
  bx := bx_ks h.bx k mb (fun z => h.rn (mS r z))
  f := k _ _ mf h.f
  nm := fn
  t := ft
  m := h.m
  al := h.al.ks k mal
  rn := h.rn
  d1 := h.d1
  d2 := h.d2
  kn := h.kn.put o t
  xl := by rw [List.length_append]; have := h.xl; simp; omega
  fo := h.fo
theorem GS.mono {S : List Addr} {H : Hp} {b r pf pn pt : Addr} {fr xs : List Str} {e : Env} {n n' : Nat} (h : GS K S H b r pf pn pt fr xs e n) (l : n ≤ n') : GS K S H b r pf pn pt fr xs e n' where
  bx := h.bx
  f := h.f
  nm := h.nm
  t := h.t.mono l
  m := h.m
  al := h.al
  rn := h.rn
  d1 := h.d1
  d2 := h.d2
  kn := h.kn
  xl := Nat.le_trans h.xl l
  fo := h.fo
theorem GS.sub {S S' : List Addr} {H : Hp} {b r pf pn pt : Addr} {fr xs : List Str} {e : Env} {n : Nat} (h : GS K S' H b r pf pn pt fr xs e n) (s : ∀ a ∈ S, a ∈ S') (m : b ∈ S ∧ pf ∈ S ∧ pn ∈ S ∧ pt ∈ S) : GS K S H b r pf pn pt fr xs e n where
  bx := h.bx
  f := h.f
  nm := h.nm
  t := h.t.sub s
  m := m
  al := fun a ha => h.al a (s a ha)
  rn := fun z => h.rn (s r z)
  d1 := h.d1
  d2 := h.d2
  kn := h.kn
  xl := h.xl
  fo := h.fo
/-- a part of a tuple of data -/
theorem a_slFrS {S : List Addr} {H : Hp} {Q : VK} {a : Addr} {vs : List V} {n : Nat} (al : Al S H) (h : SqT K (dl S H) a vs) (k : ∀ q H1, Ex H H1 → SqT K (dl S H1) q (vs.drop n) → Q (.ref q) H1) : rSlA K (.ref a) (some (n : Int)) none H Q := by
  have e1 : HT.sIx vs.length 0 (some (n : Int)) = min n vs.length := HT.sIx_nat vs.length 0 n
  refine ⟨a, vs, rfl, ex_st h (dl_le S H), fun z => ?_, fun _ p hp => ?_⟩
  · rw [e1] at z
    refine k a H (Ex.refl H) ?_
    have : n = 0 ∨ vs.length = 0 := by have := z.1; omega
    rcases this with rfl | e
    · exact h
    · rw [List.length_eq_zero_iff.mp e] at h ⊢
      rw [List.drop_nil]
      exact h
  · have e : cutV vs (some (n : Int)) none = vs.drop n := by
      unfold cutV
      rw [e1, HT.sIx_none]
      by_cases c : n ≤ vs.length
      · rw [Nat.min_eq_left c, List.take_of_length_le (by rw [List.length_drop]; exact Nat.le_refl _)]
      · have c' : vs.length ≤ n := by omega
        rw [Nat.min_eq_right c', Nat.sub_self, List.take_zero, List.drop_eq_nil_of_le c']
    rw [e]
    exact k p _ (Ex.new hp) (SqT.of (dl_at (al.nin hp) upd_same))
theorem and_q {t u : TT} {σ : L2.St} {H : Hp} {N : Bool → Hp → Prop} {a c : Bool} (ht : ∀ M : Bool → Hp → Prop, M a H → t σ H M) (hu : ∀ M : Bool → Hp → Prop, M c H → u σ H M) (h : N (a && c) H) : tAnd t u σ H N := w_and (ht _ (by
  cases a with
  | true => exact hu _ h
  | false => exact h))
def pGSrc (K : PySem.W.Frag) : Sp := fun vs H Q _ => ∃ S b r pf pn pt g fr xs e n W, vs = [.ref b, .ref pn, .ref pt, .ref g] ∧ GS K S H b r pf pn pt fr xs e n ∧ n ≤ 200 ∧ SqT K (dl S H) g (tv W) ∧
  ∀ v s H', Ks [b] H H' → Bx H' b r → Dp K (dl S H') v (sD s) → sO s → Q v H'
theorem Fit.snoc {f : TF} {ss : List Stm} : ∀ (r d : List TF), Fit d r [] → (∀ s ∈ f.b, cf (d ++ r) s) → (∀ s ∈ ss, cf (d ++ r ++ [f]) s) → Fit d (r ++ [f]) ss
  | [], d, _, h, k => by
    rw [List.append_nil] at h k
    exact ⟨h, k⟩
  | g :: r, d, h0, h, k => by
    refine ⟨h0.1, Fit.snoc r (d ++ [g]) h0.2 ?_ ?_⟩
    · rw [List.append_assoc]
      exact h
    · rw [List.append_assoc d [g] r]
      exact k
theorem Fit.stm {ss : List Stm} : ∀ (r d : List TF), Fit d r [] → (∀ s ∈ ss, cf (d ++ r) s) → Fit d r ss
  | [], d, _, k => by
    rw [List.append_nil] at k
    exact k
  | g :: r, d, h0, k => ⟨h0.1, Fit.stm r (d ++ [g]) h0.2 (by rw [List.append_assoc]; exact k)⟩
end
end Ver
set_option Elab.async false
set_option linter.all false
set_option maxRecDepth 100000
set_option maxHeartbeats 4000000
namespace Ver
open PySem PySem.Spec PyProof.Rows L2 Evl
def ini (T : List R) (v : Int) : Src := if T.length = 1 then .num v else .null
end Ver
set_option Elab.async false
set_option linter.all false
set_option maxRecDepth 100000
set_option maxHeartbeats 4000000
namespace Ver
open PySem PySem.Spec PyProof.Rows L2 Evl
def NmT (ths : List Thg) : Prop := ∀ t ∈ ths, nmO t.x
theorem NmT.add {ths : List Thg} (h : NmT ths) {x : Str} {T : List R} {v : Vl} (o : nmO x) : NmT (ths ++ [⟨x, T, v⟩]) := fun t ht => by
  rcases List.mem_append.mp ht with ht | ht
  · exact h t ht
  · rw [List.mem_singleton.mp ht]
    exact o
end Ver
set_option Elab.async false
set_option linter.all false
set_option maxRecDepth 100000
set_option maxHeartbeats 4000000
namespace Ver
open PySem PySem.Spec PyProof.Rows L2 Evl
section
variable {K : PySem.W.Frag}
structure LU (K : PySem.W.Frag) (G H : Hp) (s t b : Addr) (us : List Addr) (r : RS) : Prop where
  ex : Ex G H
  o : H s = some (.lst [.ref t, .ref b, .int (r.n : Int)])
  ls : H t = some (.lst (us.map V.ref))
  nd : us.Nodup
  len : us.length = r.th.length
  th : ∀ (i : Nat) (u : Addr) (q : Thg), us[i]? = some u → r.th[i]? = some q → ∃ p v, H u = some (.lst [.ref p, v, .str q.x]) ∧ Dp K (Im H) (.ref p) (ru q.T) ∧ Dp K (Im H) v (vlD q.v)
  br : ∃ xs, H b = some (.lst xs) ∧ DpAll K (Im H) xs (r.br.map brD)
  d : s ≠ t ∧ s ≠ b ∧ t ≠ b
  uf : ∀ u ∈ us, u ≠ s ∧ u ≠ t ∧ u ≠ b
  n : G s = none ∧ G t = none ∧ G b = none ∧ ∀ u ∈ us, G u = none
abbrev MS (s t b : Addr) (us : List Addr) : List Addr := s :: t :: b :: us
variable {G H H1 : Hp} {s t b : Addr} {us : List Addr} {r : RS}
theorem LU.at (h : LU K G H s t b us r) {i : Nat} {q : Thg} (e : r.th[i]? = some q) : ∃ u p v, us[i]? = some u ∧ H u = some (.lst [.ref p, v, .str q.x]) ∧ SqT K H p (tv q.T) ∧ Dp K (Im H) (.ref p) (ru q.T) ∧ Dp K (Im H) v (vlD q.v) := by
  have hi : i < us.length := by rw [h.len]; exact at_lt e
  obtain ⟨p, v, h1, h2, h3⟩ := h.th i us[i] q (List.getElem?_eq_getElem hi) e
  obtain ⟨a, ea, ha⟩ := dp_ruT h2
  cases ea
  exact ⟨us[i], p, v, List.getElem?_eq_getElem hi, h1, ex_st ha (im_le _), h2, h3⟩
/-- all of it stands somewhere -/
theorem LU.nin (h : LU K G H s t b us r) {a : Addr} (n : H a = none) : a ∉ MS s t b us := by
  intro m
  simp only [MS, List.mem_cons] at m
  rcases m with rfl | rfl | rfl | m
  · rw [h.o] at n; cases n
  · rw [h.ls] at n; cases n
  · obtain ⟨xs, e, _⟩ := h.br
    rw [e] at n; cases n
  · obtain ⟨i, hi, rfl⟩ := List.mem_iff_getElem.mp m
    have hq : i < r.th.length := by rw [← h.len]; exact hi
    obtain ⟨p, v, h1, _⟩ := h.th i us[i] r.th[i] (List.getElem?_eq_getElem hi) (List.getElem?_eq_getElem hq)
    rw [h1] at n; cases n
theorem LU.lst (h : LU K G H s t b us r) {a : Addr} (m : a ∈ MS s t b us) : ∃ xs, H a = some (.lst xs) := by
  simp only [MS, List.mem_cons] at m
  rcases m with rfl | rfl | rfl | m
  · exact ⟨_, h.o⟩
  · exact ⟨_, h.ls⟩
  · obtain ⟨xs, e, _⟩ := h.br
    exact ⟨_, e⟩
  · obtain ⟨i, hi, rfl⟩ := List.mem_iff_getElem.mp m
    have hq : i < r.th.length := by rw [← h.len]; exact hi
    obtain ⟨p, v, h1, _⟩ := h.th i us[i] r.th[i] (List.getElem?_eq_getElem hi) (List.getElem?_eq_getElem hq)
    exact ⟨_, h1⟩
/-- what other places change does nothing to it -/
theorem LU.kp {M : List Addr} (h : LU K G H s t b us r) (k : Kp M H H1) (n : ∀ a ∈ M, G a = none ∧ a ∉ MS s t b us) : LU K G H1 s t b us r where
  ex := fun a o q => k.at (fun m => by rw [(n a m).1] at q; cases q) (h.ex _ _ q)
  o := k.at (fun m => (n _ m).2 (by simp [MS])) h.o
  ls := k.at (fun m => (n _ m).2 (by simp [MS])) h.ls
  nd := h.nd
  len := h.len
  th := fun i u q e1 e2 => by
    obtain ⟨p, v, h1, h2, h3⟩ := h.th i u q e1 e2
    exact ⟨p, v, k.at (fun m => (n _ m).2 (by have := List.mem_of_getElem? e1; simp [MS, this])) h1, dp_ex k.i h2, dp_ex k.i h3⟩
  br := by
    obtain ⟨xs, e, d⟩ := h.br
    exact ⟨xs, k.at (fun m => (n _ m).2 (by simp [MS])) e, dpa_ex k.i d⟩
  d := h.d
  uf := h.uf
  n := h.n
/-- seen from a smaller heap, from a greater one -/
theorem LU.sub {G' : Hp} (h : LU K G' H s t b us r) (e : Ex G G') : LU K G H s t b us r := { h with
  ex := e.trans h.ex
  n := ⟨ex_none e h.n.1, ex_none e h.n.2.1, ex_none e h.n.2.2.1, fun u m => ex_none e (h.n.2.2.2 u m)⟩ }
end
end Ver
set_option Elab.async false
set_option linter.all false
set_option maxRecDepth 100000
set_option maxHeartbeats 4000000
namespace Ver
open PySem PySem.Spec PyProof.Rows L2 Evl
def Aft (s s' : RS) (c m : Nat) : Prop := s'.n = s.n + c ∧ s'.br = s.br ∧ s'.th.length = s.th.length + m
theorem Aft.trans {a b d : RS} {c m c' m' : Nat} (h : Aft a b c m) (k : Aft b d c' m') : Aft a d (c + c') (m + m') := by
  obtain ⟨h1, h2, h3⟩ := h
  obtain ⟨k1, k2, k3⟩ := k
  exact ⟨by omega, k2.trans h2, by omega⟩
def lD (al : Nat → Str) (v : Nat → Int) (k : Nat) : List Stm := (List.range k).map fun i => Stm.lt (al i) [.rw] (.num (v i))
def LcP (K : PySem.W.Frag) (H : Hp) (f : Nat → PyData) (p : Addr) (k : Nat) (h : Hp) : Prop := Ex H h ∧ ∃ acc, h p = some (.lst acc) ∧ DpAll K (dl [p] h) acc ((List.range k).map f) ∧ acc.length = k
theorem LcP.nil {K : PySem.W.Frag} {H : Hp} {f : Nat → PyData} {p : Addr} (n : H p = none) : LcP K H f p 0 (upd H p (.lst [])) := ⟨Ex.new n, [], upd_same, .nil, rfl⟩
theorem LcP.step {K : PySem.W.Frag} {H h h4 : Hp} {f : Nat → PyData} {p : Addr} {k : Nat} {a : V} (I : LcP K H f p k h) (n : H p = none) (l : k < 100000) (e : Ex h h4) (d : Dp K (dl [p] h4) a (f k)) : ∃ acc, h4 p = some (.lst acc) ∧ acc.length < sizeLine ∧ LcP K H f p (k + 1) (upd h4 p (.lst (acc ++ [a]))) := by
  obtain ⟨e0, acc, fp, D, la⟩ := I
  refine ⟨acc, e _ _ fp, sz_lt (by omega), (e0.trans e).mut n, acc ++ [a], upd_same, ?_, by rw [List.length_append, la]; rfl⟩
  rw [dl_upd (List.mem_cons_self ..), List.range_succ, List.map_append]
  exact dpa_snoc (dpa_ex (dl_ex e) D) d
theorem LcP.al {K : PySem.W.Frag} {H h : Hp} {f : Nat → PyData} {p : Addr} {k : Nat} (I : LcP K H f p k h) : Al [p] h := Al.nil.cons I.2.choose_spec.1
def al4 (i : Nat) : Str := "x" ++ ⟨#[("abcd" : Str).cps.toList.getD i 0]⟩
def al9 (i : Nat) : Str := "x" ++ ⟨#[("abcdefghi" : Str).cps.toList.getD i 0]⟩
def f9 : TF := ⟨"f", [], lD al9 (fun _ => 0) 9⟩
/-- a list of functions that grows -/
def FL (K : PySem.W.Frag) (C : Addr) (H : Hp) (c : Addr) (gs : List TF) : Prop := ∃ xs, H c = some (.lst xs) ∧ FnAll K C (dl [c] H) xs (gs.map TF.fd)
theorem FL.ex {K : PySem.W.Frag} {C : Addr} {H H1 : Hp} {c : Addr} {gs : List TF} (h : FL K C H c gs) (e : Ex H H1) : FL K C H1 c gs := by
  obtain ⟨xs, f, F⟩ := h
  exact ⟨xs, e _ _ f, F.up (dl_ex e)⟩
theorem FL.app {K : PySem.W.Frag} {C : Addr} {H : Hp} {Q : VK} {c : Addr} {gs : List TF} {y : Addr} {g : TF} (h : FL K C H c gs) (l : gs.length ≤ 4) (F : FnAt K C (dl [c] H) y g.fd) (k : ∀ H1, (∀ b o, b ≠ c → H b = some o → H1 b = some o) → FL K C H1 c (gs ++ [g]) → Q .non H1) : rAppend (.ref c) [.ref y] H Q := by
  obtain ⟨xs, f, G⟩ := h
  have xl := G.len
  rw [List.length_map] at xl
  refine a_app f (by omega) (k _ (fun b o nb e => by rw [upd_ne nb]; exact e) ⟨xs ++ [.ref y], upd_same, ?_⟩)
  rw [dl_upd (by simp), List.map_append]
  exact FnAll.snoc F G
end Ver
set_option Elab.async false
set_option linter.all false
set_option maxRecDepth 100000
set_option maxHeartbeats 4000000
namespace Ver
open PySem PySem.Spec PyProof.Rows L2 Evl
section
variable {K : PySem.W.Frag}
theorem dl_dl {a b : Addr} {L : List Addr} {H : Hp} : dl [a, b] (dl L H) = dl (a :: b :: L) H := by
  funext x
  by_cases h : x ∈ a :: b :: L
  · rw [dl_in h]
    by_cases h2 : x ∈ [a, b]
    · exact dl_in h2
    · rw [dl_nin h2]
      refine dl_in ?_
      simp only [List.mem_cons, List.not_mem_nil, or_false, not_or] at h h2
      rcases h with h | h | h
      · exact absurd h h2.1
      · exact absurd h h2.2
      · exact h
  · rw [dl_nin h]
    simp only [List.mem_cons, not_or] at h
    rw [dl_nin (by simpa using ⟨h.1, h.2.1⟩), dl_nin h.2.2]
structure MS2 (K : PySem.W.Frag) (L : List Addr) (CM CS CF : Addr) (H : Hp) (m xa fa bn sa ta : Addr) (fs : List TF) (ex : List (List R × List R)) (ps : List Stm) (sts : List (RS × Sc)) : Prop where
  o : ∃ dx, H m = some (.ins CM dx (mcF xa fa bn sa ta))
  x : XL K (dl (sa :: ta :: L) H) xa ex
  f : ∃ ws, (dl (sa :: ta :: L) H) fa = some (.lst ws) ∧ FnAll K CF (dl (sa :: ta :: L) H) ws (fs.map TF.fd)
  b : FnD K CF (dl (sa :: ta :: L) H) bn fs
  s : ∃ xs, H sa = some (.lst xs) ∧ DpAll K (dl (sa :: ta :: L) H) xs (ps.map stD)
  t : ∃ zs, H ta = some (.lst zs) ∧ StAll K CS (dl (sa :: ta :: L) H) 0 zs sts
  d : sa ≠ ta
theorem dl_out {L : List Addr} {H : Hp} {a : Addr} {o : HO} (h : dl L H a = some o) : a ∉ L ∧ H a = some o := by
  by_cases c : a ∈ L
  · rw [dl_in c] at h
    cases h
  · rw [dl_nin c] at h
    exact ⟨c, h⟩
theorem MA.toS {L : List Addr} {CM CS CF : Addr} {H : Hp} {m xa fa bn sa ta : Addr} {fs : List TF} {ex : List (List R × List R)} {ps : List Stm} {sts : List (RS × Sc)} (h : MA K CM CS CF (Ver.dl L H) m xa fa bn sa ta fs ex ps sts) : m ∉ L ∧ sa ∉ L ∧ ta ∉ L ∧ MS2 K L CM CS CF H m xa fa bn sa ta fs ex ps sts := by
  obtain ⟨⟨dx, o⟩, x, f, b, ⟨xs, s1, s2⟩, ⟨zs, t1, t2⟩, d⟩ := h
  rw [dl_dl] at x f b s2 t2
  exact ⟨(dl_out o).1, (dl_out s1).1, (dl_out t1).1, ⟨dx, (dl_out o).2⟩, x, f, b, ⟨xs, (dl_out s1).2, s2⟩, ⟨zs, (dl_out t1).2, t2⟩, d⟩
inductive Tr (cl : CL) : List Stm → List (RS × Sc) → Prop
  | nil : Tr cl [] [(s0, sc0)]
  | snoc {ps : List Stm} {sts : List (RS × Sc)} {s s' : RS} {c c' : Sc} {st : Stm} : Tr cl ps (sts ++ [(s, c)]) → ex1 true cl c s st = (.go, s', c') → ThSh s'.th → ScSh s'.th c' (envP e0 (lets (ps ++ [st]))) → SB s' → Tr cl (ps ++ [st]) ((sts ++ [(s, c)]) ++ [(s', c')])
theorem Tr.len {cl : CL} {ps : List Stm} {sts : List (RS × Sc)} (h : Tr cl ps sts) : sts.length = ps.length + 1 := by
  induction h with
  | nil => rfl
  | snoc _ _ _ _ _ ih =>
    simp only [List.length_append, List.length_cons, List.length_nil] at ih ⊢
    omega
end
end Ver
set_option Elab.async false
set_option linter.all false
set_option maxRecDepth 100000
set_option maxHeartbeats 4000000
namespace Ver
open PySem PySem.Spec PyProof.Rows L2 Evl
def dpt (T : List R) : PyData := .int ((T.length : Int) - 1)
def skp (q : Str × List R) : PyData := .tuple [.str q.1, dpt q.2]
def sks : Stm → PyData
  | .lt x T s => .tuple [.str "let", .str x, dpt T, sD s]
  | .put x k s => stD (.put x k s)
  | .call f ss => stD (.call f ss)
def skf (f : TF) : PyData := .list [.str f.n, .list (f.p.map skp), .list (f.b.map sks)]
abbrev skL (fs : List TF) (ss : List Stm) : PyData := .list [.list (List.map skf fs), .list (List.map sks ss)]
end Ver
set_option Elab.async false
set_option linter.all false
set_option maxRecDepth 100000
set_option maxHeartbeats 4000000
set_option Elab.async false
set_option linter.all false
set_option maxRecDepth 100000
set_option maxHeartbeats 4000000
namespace Ver
open PySem PySem.Spec PyProof.Rows L2
abbrev Nd := NestedKey
/-- v is the key k, at most eight deep -/
def NI (h : Heap) (k : Nd) (v : Value) : Prop := NestedIs h k v ∧ k.depth ≤ 8
section
variable {P : Program} {w : World}
def NoCls (P : Program) (w : World) (n : Nat) (s0 : Shared) (v : Value) : Prop := ∀ (A : Around) (E : Value → Shared → Prop) (Q : Bool → Shared → Prop), Q false s0 → wpAny (model P w) A (ofAClassStatement n v) Q E s0
def SomeB (P : Program) (w : World) (n : Nat) (s0 : Shared) (v : Value) : Prop := ∀ (A : Around) (E : Value → Shared → Prop) (Q : Bool → Shared → Prop), (∀ b, Q b s0) → wpAny (model P w) A (hashByValue n v) Q E s0
theorem NoCls.tup {n m : Nat} {s0 : Shared} {a : Addr} {o : Obj} {us : Array Value} (g : s0.heap.get? a = some o) (c : o.cls = .type "tuple") (d : o.data = .seq us m) (all : ∀ v ∈ us.toList, NoCls P w n s0 v) : NoCls P w (n + 1) s0 (.ref a) := fun A E Q q => by
  have ty : s0.TypeIs (.ref a) "tuple" := ⟨o, g, c⟩
  unfold ofAClassStatement
  refine wpAny_bind (wpAny_typeOf ty ?_)
  dsimp only
  rw [if_pos (show (("tuple" : String) == "tuple") = true from by decide)]
  simp only [pure_bind, Bool.not_true, Bool.false_eq_true, if_false]
  show wpAny _ _ (seqItems? (.ref a) >>= _) _ _ s0
  refine wpAny_bind (wpAny_seqItems g d ?_)
  dsimp only
  refine wpAny_bind ?_
  show wpAny _ _ (forIn us _ _) _ _ s0
  rw [← Array.forIn_toList]
  refine wpAny_forIn_list _ (fun l r z => (r.1 = none ∧ z = s0) ∧ ∀ v ∈ l, NoCls P w n s0 v) _ (fun v l r z ⟨⟨h1, h2⟩, h3⟩ => ?_) (fun ⟨r1, r2⟩ z ⟨⟨h1, h2⟩, _⟩ => ?_) _ _ ⟨⟨rfl, rfl⟩, all⟩
  · subst h2
    refine wpAny_bind (h3 v (List.mem_cons_self ..) _ _ _ ?_)
    simp only [Bool.false_eq_true, if_false]
    exact wpAny_pure ⟨⟨rfl, rfl⟩, fun u m => h3 u (List.mem_cons_of_mem _ m)⟩
  · cases (show r1 = none from h1)
    cases h2
    exact wpAny_pure q
theorem SomeB.tup {n m : Nat} {s0 : Shared} {a : Addr} {o : Obj} {us : Array Value} (g : s0.heap.get? a = some o) (c : o.cls = .type "tuple") (d : o.data = .seq us m) (all : ∀ v ∈ us.toList, SomeB P w n s0 v) : SomeB P w (n + 1) s0 (.ref a) := fun A E Q q => by
  have ty : s0.TypeIs (.ref a) "tuple" := ⟨o, g, c⟩
  unfold hashByValue
  refine wpAny_bind (wpAny_specialOf ty F.slot_tuple_hash.lookup ?_)
  show wpAny _ _ (seqItems? (.ref a) >>= _) _ _ s0
  refine wpAny_bind (wpAny_seqItems g d ?_)
  refine wpAny_bind ?_
  show wpAny _ _ (forIn us _ _) _ _ s0
  rw [← Array.forIn_toList]
  refine wpAny_forIn_list _ (fun l r z => (r.1 = none ∧ z = s0) ∧ ∀ v ∈ l, SomeB P w n s0 v) _ (fun v l r z ⟨⟨h1, h2⟩, h3⟩ => ?_) (fun ⟨r1, r2⟩ z ⟨⟨h1, h2⟩, _⟩ => ?_) _ _ ⟨⟨rfl, rfl⟩, all⟩
  · subst h2
    refine wpAny_bind (h3 v (List.mem_cons_self ..) _ _ _ fun b => ?_)
    cases b
    · simp only [Bool.not_false, if_true]
      exact wpAny_pure (wpAny_pure (q _))
    · simp only [Bool.not_true, Bool.false_eq_true, if_false]
      exact wpAny_pure ⟨⟨rfl, rfl⟩, fun u m => h3 u (List.mem_cons_of_mem _ m)⟩
  · cases (show r1 = none from h1)
    cases h2
    exact wpAny_pure (q _)
end
structure NT (w : World) (h : Heap) (a : Addr) (L : List (Addr × Nd)) (es : Array (Int × Value)) (ep : Nat) (t : SetTable) : Prop where
  ob : ∃ o, h.get? a = some o ∧ o.ExactSet ∧ o.data = .set es ep t
  rw : es.toList = L.map fun q => (q.2.hash w, Value.ref q.1)
  tb : TabOk t (L.map fun q => q.2.hash w)
  nd : (L.map Prod.snd).Nodup
  is : ∀ q ∈ L, NI h q.2 (.ref q.1)
  ld : w.params.followText "set-order" = true ∨ t.led = true
  rm : L.length * 5 < t.mask * 3
  fw : L.length ≤ 70
section
variable {w : World} {h : Heap} {a : Addr} {L : List (Addr × Nd)} {es : Array (Int × Value)} {ep : Nat} {t : SetTable}
theorem NT.at (R : NT w h a L es ep t) {i : Nat} {q : Addr × Nd} (e : L[i]? = some q) : es[i]? = some (q.2.hash w, Value.ref q.1) := by
  rw [← Array.getElem?_toList, R.rw, List.getElem?_map, e]
  rfl
end
/-- what a set has got of the first i keys -/
structure NG (ks : List (Addr × Nd)) (i : Nat) (L : List (Addr × Nd)) : Prop where
  sub : ∀ q ∈ L, q ∈ ks.take i
  all : ∀ q ∈ ks.take i, q.2 ∈ L.map Prod.snd
  le : L.length ≤ i
theorem NG.next {ks L L1 : List (Addr × Nd)} {i : Nat} {x : Addr} {k : Nd} (g : NG ks i L) (e : ks[i]? = some (x, k)) (h1 : k ∈ L.map Prod.snd → L1 = L) (h2 : k ∉ L.map Prod.snd → L1.Perm ((x, k) :: L)) : NG ks (i + 1) L1 := by
  by_cases m : k ∈ L.map Prod.snd
  · rw [h1 m]
    refine ⟨fun q z => ?_, fun q z => ?_, Nat.le_succ_of_le g.le⟩
    · rw [take_snoc e]
      exact List.mem_append_left _ (g.sub q z)
    · rw [take_snoc e] at z
      rcases List.mem_append.mp z with z | z
      · exact g.all q z
      · rw [List.mem_singleton.mp z]
        exact m
  · have pm := h2 m
    refine ⟨fun q z => ?_, fun q z => ?_, ?_⟩
    · rw [take_snoc e]
      rcases List.mem_cons.mp (pm.mem_iff.mp z) with rfl | z
      · exact List.mem_append_right _ (List.mem_singleton.mpr rfl)
      · exact List.mem_append_left _ (g.sub q z)
    · refine (pm.map Prod.snd).mem_iff.mpr ?_
      rw [take_snoc e] at z
      rcases List.mem_append.mp z with z | z
      · exact List.mem_cons_of_mem _ (g.all q z)
      · rw [List.mem_singleton.mp z]
        exact List.mem_cons_self ..
    · have := pm.length_eq
      have := g.le
      rw [List.length_cons] at *
      omega
abbrev eNset (w : World) : Obj := eS (!w.params.followText "set-order")
theorem NT.fresh {w : World} {h : Heap} {a : Addr} (e : h.get? a = some (eNset w)) : NT w h a [] #[] 0 (.fresh 0 0 (!w.params.followText "set-order")) where
  ob := ⟨_, e, ⟨rfl, rfl, rfl⟩, rfl⟩
  rw := rfl
  tb := (setTR_fresh (P := default) (w := w) e).tab
  nd := List.nodup_nil
  is := fun _ m => by cases m
  ld := by
    show _ ∨ (!w.params.followText "set-order") = true
    cases w.params.followText "set-order" <;> simp
  rm := by
    show 0 * 5 < 7 * 3
    decide
  fw := by decide
end Ver
set_option Elab.async false
set_option linter.all false
set_option maxRecDepth 100000
set_option maxHeartbeats 4000000
namespace L2
open PySem PySem.Spec PyProof.Rows
end L2
set_option Elab.async false
set_option linter.all false
set_option maxRecDepth 100000
set_option maxHeartbeats 4000000
set_option Elab.async false
set_option linter.all false
set_option maxRecDepth 100000
set_option maxHeartbeats 4000000
namespace Ver
open PySem PySem.Spec PyProof.Rows L2 Evl
abbrev Pt := Str × Nat
def nxt (p : Pt) : Pt := (p.1, p.2 + 1)
end Ver
set_option Elab.async false
set_option linter.all false
set_option maxRecDepth 100000
set_option maxHeartbeats 4000000
set_option Elab.async false
set_option linter.all false
set_option maxRecDepth 100000
set_option maxHeartbeats 4000000
set_option Elab.async false
set_option linter.all false
set_option maxRecDepth 100000
set_option maxHeartbeats 4000000
namespace Ver
open PySem PySem.Spec PyProof.Rows L2 Evl
def sfd (f : TF) : FD := ⟨.str f.n, f.p.map skp, f.b.map sks⟩
theorem skp_ok {q : Str × List R} (h : nmO q.1) (t : tyO q.2) : declD (skp q) = true := by
  show (decide ("tuple" = "tuple") && decide (2 = 2) && (nameD (.str q.1) && (typD (dpt q.2) || numD (dpt q.2) 5))) = true
  have e : numD (dpt q.2) 5 = true := by
    show (decide ((0 : Int) ≤ (q.2.length : Int) - 1) && decide ((q.2.length : Int) - 1 ≤ 5)) = true
    have h1 := t.1
    have h2 := t.2
    rw [decide_eq_true (by omega), decide_eq_true (by omega)]
    rfl
  rw [show nameD (.str q.1) = true from h, e, Bool.or_true]
  rfl
theorem sks_ok {s : Stm} (h : stO s) : stmtD (sks s) = true := by
  cases s with
  | lt x T s =>
    have e : fwD (sks (.lt x T s)) = "let" := fw_str (by simp) rfl
    unfold stmtD
    rw [e, if_pos rfl]
    show (decide (4 = 4) && (declD (skp (x, T)) && srcD (sD s))) = true
    rw [skp_ok h.1 h.2.1, src_ok h.2.2]
    rfl
  | put x k s => exact st_okD (s := .put x k s) h
  | call f ss => exact st_okD (s := .call f ss) h
theorem sletsD_eq : ∀ b : List Stm, letsD (b.map sks) = (lets b).map skp
  | [] => rfl
  | s :: b => by
    have ih := sletsD_eq b
    unfold letsD lets at ih ⊢
    cases s with
    | lt x T s =>
      have e : fwD (sks (.lt x T s)) = "let" := fw_str (by simp) rfl
      rw [List.map_cons, List.filter_cons_of_pos (by simpa using e), List.map_cons, ih]
      rfl
    | put x k s =>
      have e : fwD (sks (.put x k s)) = "put" := fw_str (by simp) rfl
      rw [List.map_cons, List.filter_cons_of_neg (by rw [e]; decide), ih]
      rfl
    | call f ss =>
      have e : fwD (sks (.call f ss)) = "call" := fw_str (by simp) rfl
      rw [List.map_cons, List.filter_cons_of_neg (by rw [e]; decide), ih]
      rfl
theorem sdeclsF_eq : ∀ fs : List TF, declsF (fs.map sfd) = (declF fs).map skp
  | [] => rfl
  | f :: fs => by
    have ih := sdeclsF_eq fs
    unfold declsF declF at ih ⊢
    rw [List.map_cons, List.flatMap_cons, List.flatMap_cons, ih, List.map_append, List.map_append]
    show f.p.map skp ++ letsD (f.b.map sks) ++ _ = _
    rw [sletsD_eq]
theorem sdeclsD_eq (fs : List TF) (ss : List Stm) : declsD (fs.map sfd) (ss.map sks) = (decl fs ss).map skp := by
  unfold declsD decl
  rw [sdeclsF_eq, sletsD_eq, List.map_append]
theorem snamesD_eq (fs : List TF) (ss : List Stm) : namesD (fs.map sfd) (ss.map sks) = fs.map TF.n ++ (decl fs ss).map Prod.fst := by
  unfold namesD
  rw [sdeclsD_eq, List.map_map, List.map_map]
  rfl
theorem skindsD_eq (fs : List TF) (ss : List Stm) : kindsD (fs.map sfd) (ss.map sks) = (decl fs ss).map fun q => dpt q.2 := by
  unfold kindsD
  rw [sdeclsD_eq, List.map_map]
  rfl
theorem sfit1_ok {kvs : Kv} {d : List TF} {s : Stm} (h : ∀ g ∈ d, valV kvs (Sum.inr g.n) = some (.int (g.p.length : Nat))) (c : cf d s) : fit1 kvs (sks s) = true := by
  cases s with
  | lt x T s =>
    unfold fit1
    rw [show fwD (sks (.lt x T s)) = "let" from fw_str (by simp) rfl]
    rfl
  | put x k s => exact fit1_ok (s := .put x k s) h c
  | call f ss => exact fit1_ok (s := .call f ss) h c
theorem sfit_ok : ∀ (r d : List TF) (ss : List Stm) (kvs : Kv), (∀ g ∈ d, valV kvs (Sum.inr g.n) = some (.int (g.p.length : Nat))) → ((d ++ r).map TF.n).Nodup → Fit d r ss → fitF kvs (r.map sfd) (ss.map sks) = true
  | [], d, ss, kvs, h, _, c => by
    show fitD kvs (ss.map sks) = true
    unfold fitD
    rw [List.all_map, List.all_eq_true]
    exact fun s hs => sfit1_ok h (c s hs)
  | f :: r, d, ss, kvs, h, nd, c => by
    show (fitD kvs (f.b.map sks) && fitF (putN kvs (sfd f)) (r.map sfd) (ss.map sks)) = true
    refine and_t ?_ (sfit_ok r (d ++ [f]) ss _ ?_ (by rw [List.append_assoc]; exact nd) c.2)
    · unfold fitD
      rw [List.all_map, List.all_eq_true]
      exact fun s hs => sfit1_ok h (c.1 s hs)
    · intro g hg
      unfold putN
      rw [valV_put]
      show (if (Sum.inr g.n : Key) = Sum.inr f.n then some (V.int ((f.p.map skp).length : Nat)) else valV kvs (Sum.inr g.n)) = _
      rcases List.mem_append.mp hg with hg | hg
      · have ne : g.n ≠ f.n := fun z => by
          rw [List.map_append, List.map_cons] at nd
          have := (List.nodup_append.mp nd).2.2 g.n (List.mem_map_of_mem hg) f.n (List.mem_cons_self ..)
          exact this z
        rw [if_neg (fun z => ne (Sum.inr.inj z))]
        exact h g hg
      · rw [List.mem_singleton] at hg
        subst hg
        rw [if_pos rfl, List.length_map]
theorem sfn_ok {f : TF} (h : FOk f) : fnD (sfd f) = true := by
  unfold fnD stsD
  refine and_t (and_t h.n (and_t (decide_eq_true ?_) ?_)) (and_t (decide_eq_true ?_) ?_)
  · show (f.p.map skp).length ≤ 4
    rw [List.length_map]
    exact h.p4
  · show (f.p.map skp).all declD = true
    rw [List.all_map, List.all_eq_true]
    exact fun q hq => skp_ok (h.po q hq).1 (h.po q hq).2
  · show (f.b.map sks).length ≤ 12
    rw [List.length_map]
    exact h.b12
  · show (f.b.map sks).all stmtD = true
    rw [List.all_map, List.all_eq_true]
    exact fun q hq => sks_ok (h.bo q hq)
/-- a sketch is a program -/
theorem sk_prog {fs : List TF} {ss : List Stm} (h : POk fs ss) : progD (fs.map sfd) (ss.map sks) = true := by
  unfold progD stsD
  refine and_t (and_t (and_t (decide_eq_true ?_) ?_) (and_t (decide_eq_true ?_) ?_)) (and_t (and_t ?_ ?_) ?_)
  · rw [List.length_map]
    exact h.f4
  · rw [List.all_map, List.all_eq_true]
    exact fun q hq => sfn_ok (h.fo q hq)
  · rw [List.length_map]
    exact h.s40
  · rw [List.all_map, List.all_eq_true]
    exact fun q hq => sks_ok (h.so q hq)
  · rw [snamesD_eq]
    exact decide_eq_true h.nd
  · rw [skindsD_eq]
    unfold kindD
    rw [show ((decl fs ss).map fun q => dpt q.2).all (fun d => numD d 5) = true from by
      rw [List.all_map, List.all_eq_true]
      intro q hq
      have t := (decl_tyO h q hq).2
      show (decide ((0 : Int) ≤ (q.2.length : Int) - 1) && decide ((q.2.length : Int) - 1 ≤ 5)) = true
      have h1 := t.1
      have h2 := t.2
      rw [decide_eq_true (by omega), decide_eq_true (by omega)]
      rfl, Bool.or_true]
  · refine sfit_ok fs [] ss [] (fun g hg => by cases hg) ?_ h.ft
    rw [List.nil_append]
    exact (List.nodup_append.mp h.nd).1
end Ver
set_option Elab.async false
set_option linter.all false
set_option maxRecDepth 100000
set_option maxHeartbeats 4000000
namespace Ver
open PySem PySem.Spec PyProof.Rows L2 Evl TL
abbrev Ln := List Nat
def mkS (l : Ln) : Str := ⟨l.toArray⟩
theorem tl_mkS (l : Ln) : tl (mkS l) = l := rfl
theorem mkS_tl (x : Str) : mkS (tl x) = x := mk_tl x
theorem mkS_len (l : Ln) : (mkS l).length = l.length := by rw [len_tl, tl_mkS]
def lowB (c : Nat) : Bool := decide (c ∈ tl signs)
def digB (c : Nat) : Bool := decide (c ∈ tl "0123456789")
theorem lowB_iff (c : Nat) : lowB c = true ↔ 97 ≤ c ∧ c ≤ 122 := by
  unfold lowB
  rw [decide_eq_true_iff, show tl signs = [97,98,99,100,101,102,103,104,105,106,107,108,109,110,111,112,113,114,115,116,117,118,119,120,121,122] from by decide +kernel]
  simp only [List.mem_cons, List.not_mem_nil, or_false]
  omega
theorem digB_iff (c : Nat) : digB c = true ↔ 48 ≤ c ∧ c ≤ 57 := by
  unfold digB
  rw [decide_eq_true_iff, show tl "0123456789" = [48,49,50,51,52,53,54,55,56,57] from by decide +kernel]
  simp only [List.mem_cons, List.not_mem_nil, or_false]
  omega
theorem sgOk_low (c : Nat) : sgOk c = lowB c := by
  unfold sgOk lowB
  exact PySem.StrLaws.found_one signs c
def nmL (l : Ln) : Bool := decide (0 < l.length) && l.all lowB
def nuL (l : Ln) : Bool := (decide (0 < l.length) && l.all digB) && !(decide (l.head? = some 48) && decide (1 < l.length))
def RT : List Ln := [tl "rw", tl "r", tl "w", tl "-"]
abbrev NV := Ln → Nat
def spW (l : Ln) : List Ln := spl [32] 0 [] l
def kdL (nv : NV) (l : Ln) : Option PyData := if (spW l).all (fun w => decide (w ∈ RT)) = true then some (.tuple ((spW l).map fun w => .str (mkS w))) else if nuL l = true then some (.int (nv l)) else none
def dcL (nv : NV) (l : Ln) : Option (Str × PyData) := match par (tl " : ") [] l with
  | none => none
  | some (a, b) => if nmL a = true then (kdL nv b).map fun k => (mkS a, k) else none
def dcD (q : Str × PyData) : PyData := .tuple [.str q.1, q.2]
def plL (l : Ln) : Option (Str × Nat) := if nmL (l.dropWhile (· == 42)) = true then some (mkS (l.dropWhile (· == 42)), l.length - (l.dropWhile (· == 42)).length) else none
def srL (nv : NV) (l : Ln) : Option PyData := if l = tl "null" then some (.tuple [.str "null"]) else if nuL l = true then some (.tuple [.str "number", .int (nv l)]) else if l.head? = some 38 then (plL l.tail).map fun q => .tuple [.str "address", plD q.1 q.2] else (plL l).map fun q => .tuple [.str "value", plD q.1 q.2]
def ptsL (b : Ln) : List Ln := if b = [] then [] else spl (tl ", ") 0 [] b
def clL (l : Ln) : Option (Str × List Ln) := match par [40] [] l with
  | none => none
  | some (a, b) => if (nmL a && decide (b.getLast? = some 41)) = true then some (mkS a, ptsL b.dropLast) else none
def oAll {α β : Type} (f : α → Option β) : List α → Option (List β)
  | [] => some []
  | a :: l => match f a, oAll f l with
    | some b, some m => some (b :: m)
    | _, _ => none
def hdL (nv : NV) (l : Ln) : Option (Str × List PyData) := if l.take 4 = tl "def " then (clL (l.drop 4)).bind fun q => (oAll (dcL nv) q.2).map fun ps => (q.1, ps.map dcD) else none
def ltL (nv : NV) (l : Ln) : Option PyData := match par (tl " = ") [] l with
  | none => none
  | some (a, b) => (dcL nv a).bind fun q => (srL nv b).map fun s => .tuple [.str "let", .str q.1, q.2, s]
def ptL (nv : NV) (l : Ln) : Option PyData := match par (tl " = ") [] l with
  | none => none
  | some (a, b) => (plL a).bind fun q => (srL nv b).map fun s => .tuple [.str "put", plD q.1 q.2, s]
def caL (nv : NV) (l : Ln) : Option PyData := (clL l).bind fun q => (oAll (srL nv) q.2).map fun ss => .tuple [.str "call", .str q.1, .list ss]
def stL (nv : NV) (l : Ln) : Option PyData := if l.take 4 = tl "let " then ltL nv (l.drop 4) else if l.take 4 = tl "put " then ptL nv (l.drop 4) else if l.take 5 = tl "call " then caL nv (l.drop 5) else none
structure Rs where
  fs : List FD
  ss : List PyData
  hd : Option (Str × List PyData)
  bd : List PyData
def rs0 : Rs := ⟨[], [], none, []⟩
def stepL (nv : NV) (s : Rs) (l : Ln) : Option Rs := match s.hd with
  | some q => if l = tl "end" then some ⟨s.fs ++ [⟨.str q.1, q.2, s.bd⟩], s.ss, none, []⟩
    else if l.take 2 = tl "  " then (stL nv (l.drop 2)).map fun d => ⟨s.fs, s.ss, some q, s.bd ++ [d]⟩ else none
  | none => match (if s.ss = [] then hdL nv l else none) with
    | some q => some ⟨s.fs, s.ss, some q, []⟩
    | none => (stL nv l).map fun d => ⟨s.fs, s.ss ++ [d], none, []⟩
theorem par_some {S : Ln} : ∀ {l acc a b : Ln}, par S acc l = some (a, b) → ∃ p, a = acc ++ p ∧ l = p ++ (S ++ b) ∧ ∀ i, i < p.length → pre S (l.drop i) = false
  | [], _, _, _, h => by cases h
  | c :: r, acc, a, b, h => by
    cases hp : pre S (c :: r) with
    | true =>
      rw [par_hit hp] at h
      cases h
      refine ⟨[], by simp, ?_, fun i hi => absurd hi (by simp)⟩
      have e : (c :: r).take S.length = S := eq_of_beq hp
      have := List.take_append_drop S.length (c :: r)
      rw [e] at this
      exact this.symm
    | false =>
      rw [par_miss hp] at h
      obtain ⟨p, h1, h2, h3⟩ := par_some h
      refine ⟨c :: p, by rw [h1]; simp, by rw [h2]; rfl, fun i hi => ?_⟩
      cases i with
      | zero => exact hp
      | succ i => exact h3 i (by simpa using hi)
theorem par_eq {S l a b : Ln} (h : par S [] l = some (a, b)) : l = a ++ (S ++ b) := by
  obtain ⟨p, h1, h2, _⟩ := par_some h
  rw [h2, h1, List.nil_append]
theorem spl_par {S : Ln} (hS : S ≠ []) : ∀ (l acc : Ln), spl S 0 acc l = match par S acc l with
    | none => [acc ++ l]
    | some (a, b) => a :: spl S 0 [] b
  | [], acc => by rw [spl_nil]; simp [par]
  | c :: r, acc => by
    cases hp : pre S (c :: r) with
    | true =>
      rw [par_hit hp, spl_hit hp, spl_pass]
      have : 0 < S.length := List.length_pos_iff.mpr hS
      show _ = acc :: spl S 0 [] ((c :: r).drop S.length)
      rw [show S.length = (S.length - 1) + 1 from by omega, List.drop_succ_cons]
      rfl
    | false =>
      rw [par_miss hp, spl_miss hp, spl_par hS r (acc ++ [c])]
      simp
/-- a sign that the separator has in its middle keeps it out -/
theorem free3 {s k : Nat} (hk : k ≠ s) {p q : Ln} (h : k ∉ p) (hq : q.head? ≠ some k) : ∀ i, i < p.length → pre [s, k, s] ((p ++ q).drop i) = false := fun i hi => by
  cases z : pre [s, k, s] ((p ++ q).drop i) with
  | false => rfl
  | true =>
    have e : ((p ++ q).drop i).take 3 = [s, k, s] := eq_of_beq z
    have e1 : (p ++ q)[i + 1]? = some k := by
      have := congrArg (fun l : Ln => l[1]?) e
      simp only [List.getElem?_take, List.getElem?_drop] at this
      simpa using this
    by_cases c : i + 1 < p.length
    · rw [List.getElem?_append_left c] at e1
      exact absurd (List.mem_of_getElem? e1) h
    · have : i + 1 = p.length := by omega
      rw [List.getElem?_append_right (by omega), this, Nat.sub_self] at e1
      rw [List.head?_eq_getElem?] at hq
      exact absurd e1 hq
theorem spW_mem : ∀ {l acc : Ln} {c : Nat}, c ∈ acc ++ l → c = 32 ∨ ∃ w ∈ spl [32] 0 acc l, c ∈ w
  | [], acc, c, h => .inr ⟨acc, by rw [spl_nil]; simp, by simpa using h⟩
  | d :: r, acc, c, h => by
    by_cases e : d = 32
    · have hp : pre [32] (d :: r) = true := by rw [e]; rfl
      rw [spl_hit hp]
      simp only [List.mem_append, List.mem_cons] at h
      rcases h with h | h | h
      · exact .inr ⟨acc, List.mem_cons_self .., h⟩
      · exact .inl (h.trans e)
      · rcases spW_mem (l := r) (acc := []) (c := c) (by simpa using h) with h | ⟨w, m, h⟩
        · exact .inl h
        · exact .inr ⟨w, List.mem_cons_of_mem _ m, h⟩
    · have hp : pre [32] (d :: r) = false := pre_of_head _ _ e
      rw [spl_miss hp]
      exact spW_mem (l := r) (acc := acc ++ [d]) (by simpa using h)
/-- a sign of a type or a number -/
theorem kd_sign {nv : NV} {b : Ln} {k : PyData} (h : kdL nv b = some k) {c : Nat} (m : c ∈ b) : c = 32 ∨ c = 45 ∨ c = 114 ∨ c = 119 ∨ (48 ≤ c ∧ c ≤ 57) := by
  unfold kdL at h
  by_cases a : (spW b).all (fun w => decide (w ∈ RT)) = true
  · rcases spW_mem (l := b) (acc := []) (c := c) (by simpa using m) with e | ⟨w, mw, cw⟩
    · exact .inl e
    · have := of_decide_eq_true (List.all_eq_true.mp a w mw)
      have rt : RT = [[114, 119], [114], [119], [45]] := by decide +kernel
      rw [rt] at this
      simp only [List.mem_cons, List.not_mem_nil, or_false] at this
      rcases this with rfl | rfl | rfl | rfl <;> simp at cw <;> omega
  · rw [if_neg a] at h
    by_cases n : nuL b = true
    · unfold nuL at n
      rw [Bool.and_eq_true, Bool.and_eq_true] at n
      have := (digB_iff c).mp (List.all_eq_true.mp n.1.2 c m)
      omega
    · rw [if_neg n] at h
      cases h
theorem nm_sign {a : Ln} (h : nmL a = true) {c : Nat} (m : c ∈ a) : 97 ≤ c ∧ c ≤ 122 := by
  unfold nmL at h
  rw [Bool.and_eq_true] at h
  exact (lowB_iff c).mp (List.all_eq_true.mp h.2 c m)
theorem sCol : tl " : " = [32, 58, 32] := by decide +kernel
theorem sEq : tl " = " = [32, 61, 32] := by decide +kernel
theorem sCom : tl ", " = [44, 32] := by decide +kernel
theorem dc_some {nv : NV} {l : Ln} {q : Str × PyData} : dcL nv l = some q ↔ ∃ a b k, l = a ++ (tl " : " ++ b) ∧ nmL a = true ∧ kdL nv b = some k ∧ q = (mkS a, k) := by
  constructor
  · intro h
    unfold dcL at h
    cases hp : par (tl " : ") [] l with
    | none => rw [hp] at h; cases h
    | some ab =>
      obtain ⟨a, b⟩ := ab
      rw [hp] at h
      by_cases n : nmL a = true
      · simp only [if_pos n] at h
        cases hk : kdL nv b with
        | none => rw [hk] at h; cases h
        | some k =>
          rw [hk] at h
          exact ⟨a, b, k, par_eq hp, n, hk, (Option.some.inj h).symm⟩
      · simp only [if_neg n] at h
        cases h
  · rintro ⟨a, b, k, rfl, n, hk, rfl⟩
    unfold dcL
    have : par (tl " : ") [] (a ++ (tl " : " ++ b)) = some (a, b) := by
      rw [sCol]
      have := par_part1 (s := 32) (S := [58, 32]) (p := a) (rest := b) (acc := []) (fun m => by have := nm_sign n m; omega)
      simpa using this
    rw [this]
    simp only [if_pos n, hk]
    rfl
def lawLet (nv : NV) (l : Ln) : Option PyData := match par (tl " : ") [] l with
  | none => none
  | some (a, r) => match par (tl " = ") [] r with
    | none => none
    | some (b, c) => if nmL a = true then (kdL nv b).bind fun k => (srL nv c).map fun s => .tuple [.str "let", .str (mkS a), k, s] else none
theorem let_eq (nv : NV) (l : Ln) : lawLet nv l = ltL nv l := by
  have key : ∀ v, lawLet nv l = some v ↔ ltL nv l = some v := fun v => by
    constructor
    · intro h
      unfold lawLet at h
      cases hp : par (tl " : ") [] l with
      | none => rw [hp] at h; cases h
      | some ar =>
        obtain ⟨a, r⟩ := ar
        rw [hp] at h
        cases hq : par (tl " = ") [] r with
        | none => simp only [hq] at h; cases h
        | some bc =>
          obtain ⟨b, c⟩ := bc
          simp only [hq] at h
          by_cases n : nmL a = true
          · rw [if_pos n] at h
            cases hk : kdL nv b with
            | none => rw [hk] at h; cases h
            | some k =>
              rw [hk] at h
              cases hs : srL nv c with
              | none => simp only [hs, Option.bind] at h; cases h
              | some s =>
                simp only [hs, Option.bind, Option.map] at h
                have el := par_eq hp
                have er := par_eq hq
                have hd : dcL nv (a ++ (tl " : " ++ b)) = some (mkS a, k) := dc_some.mpr ⟨a, b, k, rfl, n, hk, rfl⟩
                have h61 : (61 : Nat) ∉ a ++ (tl " : " ++ b) := fun m => by
                  rw [sCol] at m
                  rcases List.mem_append.mp m with m | m
                  · have := nm_sign n m; omega
                  · rcases List.mem_append.mp m with m | m
                    · simp at m
                    · have := kd_sign hk m; omega
                have hl : par (tl " = ") [] l = some (a ++ (tl " : " ++ b), c) := by
                  rw [el, er, show a ++ (tl " : " ++ (b ++ (tl " = " ++ c))) = (a ++ (tl " : " ++ b)) ++ (tl " = " ++ c) from by simp, sEq]
                  have := par_part (S := [32, 61, 32]) (p := a ++ (tl " : " ++ b)) (rest := c) (acc := []) (by simp) (free3 (by decide) h61 (by simp))
                  rw [List.nil_append] at this
                  exact this
                unfold ltL
                rw [hl]
                simp only [hd, hs, Option.bind, Option.map]
                exact h
          · rw [if_neg n] at h
            cases h
    · intro h
      unfold ltL at h
      cases hp : par (tl " = ") [] l with
      | none => rw [hp] at h; cases h
      | some hc =>
        obtain ⟨hh, c⟩ := hc
        rw [hp] at h
        cases hd : dcL nv hh with
        | none => simp only [hd, Option.bind] at h; cases h
        | some q =>
          cases hs : srL nv c with
          | none => simp only [hd, hs, Option.bind, Option.map] at h; cases h
          | some s =>
            simp only [hd, hs, Option.bind, Option.map] at h
            obtain ⟨a, b, k, e1, n, hk, rfl⟩ := dc_some.mp hd
            have el := par_eq hp
            have h1 : par (tl " : ") [] l = some (a, b ++ (tl " = " ++ c)) := by
              rw [el, e1, show (a ++ (tl " : " ++ b)) ++ (tl " = " ++ c) = a ++ (tl " : " ++ (b ++ (tl " = " ++ c))) from by simp, sCol]
              have := par_part1 (s := 32) (S := [58, 32]) (p := a) (rest := b ++ (tl " = " ++ c)) (acc := []) (fun m => by have := nm_sign n m; omega)
              rw [List.nil_append] at this
              exact this
            have h2 : par (tl " = ") [] (b ++ (tl " = " ++ c)) = some (b, c) := by
              rw [sEq]
              have := par_part (S := [32, 61, 32]) (p := b) (rest := c) (acc := []) (by simp) (free3 (by decide) (fun m => by have := kd_sign hk m; omega) (by simp))
              rw [List.nil_append] at this
              exact this
            unfold lawLet
            rw [h1]
            simp only [h2, if_pos n, hk, hs, Option.bind, Option.map]
            exact h
  cases z : ltL nv l with
  | none =>
    cases y : lawLet nv l with
    | none => rfl
    | some v => rw [(key v).mp y] at z; cases z
  | some v => exact (key v).mpr z
theorem dc_split {nv : NV} (l : Ln) : dcL nv l = match spl (tl " : ") 0 [] l with
    | [a, b] => if nmL a = true then (kdL nv b).map fun k => (mkS a, k) else none
    | _ => none := by
  have hS : tl " : " ≠ [] := by rw [sCol]; simp
  rw [spl_par hS]
  unfold dcL
  cases hp : par (tl " : ") [] l with
  | none => rfl
  | some ab =>
    obtain ⟨a, b⟩ := ab
    show (if nmL a = true then _ else none) = _
    show _ = match a :: spl (tl " : ") 0 [] b with
      | [a, b] => if nmL a = true then (kdL nv b).map fun k => (mkS a, k) else none
      | _ => none
    rw [spl_par hS]
    cases hq : par (tl " : ") [] b with
    | none =>
      show _ = if nmL a = true then (kdL nv ([] ++ b)).map fun k => (mkS a, k) else none
      rfl
    | some cd =>
      obtain ⟨c, d⟩ := cd
      have nk : kdL nv b = none := by
        cases hk : kdL nv b with
        | none => rfl
        | some k =>
          have e := par_eq hq
          have : (58 : Nat) ∈ b := by rw [e, sCol]; simp
          have := kd_sign hk this
          omega
      rw [nk]
      have e2 : spl (tl " : ") 0 [] d ≠ [] := by
        rw [spl_par hS]
        cases par (tl " : ") [] d with
        | none => simp
        | some x => simp
      cases h3 : spl (tl " : ") 0 [] d with
      | nil => exact absurd h3 e2
      | cons x xs =>
        show (if nmL a = true then (none : Option PyData).map (fun k => (mkS a, k)) else none) = match a :: c :: spl (tl " : ") 0 [] d with
          | [a, b] => if nmL a = true then (kdL nv b).map fun k => (mkS a, k) else none
          | _ => none
        rw [h3]
        split <;> rfl
end Ver
set_option Elab.async false
set_option linter.all false
set_option maxRecDepth 100000
set_option maxHeartbeats 4000000
namespace Ver
open PySem PySem.Spec PyProof.Rows L2 Evl TL
mutual
def capD : PyData → PyData
  | .int i => .int (min i 1001)
  | .list ds => .list (capA ds)
  | .tuple ds => .tuple (capA ds)
  | .none => .none
  | .bool b => .bool b
  | .str x => .str x
  | .dict x => .dict x
def capA : List PyData → List PyData
  | [] => []
  | d :: ds => capD d :: capA ds
end
theorem capA_map : ∀ ds, capA ds = ds.map capD
  | [] => rfl
  | d :: ds => by
    show capD d :: capA ds = _
    rw [capA_map ds]
    rfl
theorem cap_tup (ds : List PyData) : capD (.tuple ds) = .tuple (ds.map capD) := by rw [← capA_map]; rfl
theorem cap_lst (ds : List PyData) : capD (.list ds) = .list (ds.map capD) := by rw [← capA_map]; rfl
theorem cap_tag (d : PyData) : tagD (capD d) = tagD d := by cases d <;> rfl
theorem cap_len (d : PyData) : lenD (capD d) = lenD d := by
  cases d with
  | tuple ds => rw [cap_tup]; exact List.length_map ..
  | _ => rfl
theorem cap_nth (d : PyData) (i : Nat) : nthD (capD d) i = capD (nthD d i) := by
  cases d with
  | tuple ds =>
    rw [cap_tup]
    show (ds.map capD).getD i .none = capD (ds.getD i .none)
    rw [List.getD_eq_getElem?_getD, List.getD_eq_getElem?_getD, List.getElem?_map]
    cases ds[i]? <;> rfl
  | _ => rfl
theorem cap_str (d : PyData) : strD (capD d) = strD d := by cases d <;> rfl
theorem cap_items (d : PyData) : itemsD (capD d) = (itemsD d).map capD := by
  cases d with
  | tuple ds => rw [cap_tup]; rfl
  | list ds => rw [cap_lst]; rfl
  | _ => rfl
theorem cap_fw (d : PyData) : fwD (capD d) = fwD d := by
  unfold fwD
  rw [cap_tag, cap_len, cap_nth, cap_tag, cap_str]
theorem cap_name (d : PyData) : nameD (capD d) = nameD d := by cases d <;> rfl
theorem cap_num (d : PyData) {m : Int} (h : m ≤ 1000) : numD (capD d) m = numD d m := by
  cases d with
  | int i =>
    show (decide (0 ≤ min i 1001) && decide (min i 1001 ≤ m)) = (decide (0 ≤ i) && decide (i ≤ m))
    have e1 : decide (0 ≤ min i 1001) = decide (0 ≤ i) := decide_eq_decide.mpr (by omega)
    have e2 : decide (min i 1001 ≤ m) = decide (i ≤ m) := decide_eq_decide.mpr (by omega)
    rw [e1, e2]
  | _ => rfl
theorem cap_ir (d : PyData) : irD (capD d) = irD d := by cases d <;> rfl
theorem cap_typ (d : PyData) : typD (capD d) = typD d := by
  cases d with
  | tuple ds =>
    rw [cap_tup]
    show tyD (ds.map capD) = tyD ds
    unfold tyD vtD
    rw [List.length_map, List.all_map]
    have : (irD ∘ capD) = irD := funext cap_ir
    rw [this]
  | _ => rfl
theorem cap_place (d : PyData) : placeD (capD d) = placeD d := by
  unfold placeD
  rw [cap_tag, cap_len, cap_nth, cap_nth, cap_name, cap_num _ (by decide)]
theorem cap_src (d : PyData) : srcD (capD d) = srcD d := by
  unfold srcD
  rw [cap_fw, cap_len, cap_nth, cap_num _ (by decide), cap_place]
theorem cap_srcs (d : PyData) : srcsD (capD d) = srcsD d := by
  unfold srcsD
  rw [cap_tag, cap_items, List.all_map]
  have : (srcD ∘ capD) = srcD := funext cap_src
  rw [this]
theorem cap_decl (d : PyData) : declD (capD d) = declD d := by
  unfold declD
  rw [cap_tag, cap_len, cap_nth, cap_nth, cap_name, cap_typ, cap_num _ (by decide)]
theorem cap_cut (d : PyData) : cut13 (capD d) = capD (cut13 d) := by
  unfold cut13
  rw [cap_items, cap_tup, List.map_take, List.map_drop]
theorem cap_stmt (d : PyData) : stmtD (capD d) = stmtD d := by
  unfold stmtD
  rw [cap_fw, cap_len, cap_cut, cap_decl, cap_nth, cap_src, cap_nth, cap_place, cap_nth, cap_src, cap_name, cap_srcs]
def capF (f : FD) : FD := ⟨capD f.n, f.p.map capD, f.b.map capD⟩
theorem cap_fn (f : FD) : fnD (capF f) = fnD f := by
  unfold fnD stsD capF
  simp only [List.length_map, List.all_map, cap_name]
  have e1 : (declD ∘ capD) = declD := funext cap_decl
  have e2 : (stmtD ∘ capD) = stmtD := funext cap_stmt
  rw [e1, e2]
theorem cap_lets (ss : List PyData) : letsD (ss.map capD) = (letsD ss).map capD := by
  unfold letsD
  rw [List.filter_map, List.map_map, List.map_map]
  have e1 : ((fun d => decide (fwD d = "let")) ∘ capD) = fun d => decide (fwD d = "let") := funext fun d => by
    show decide (fwD (capD d) = "let") = _
    rw [cap_fw]
  have e2 : (cut13 ∘ capD) = (capD ∘ cut13) := funext cap_cut
  rw [e1, e2]
theorem cap_decls (fs : List FD) (ss : List PyData) : declsD (fs.map capF) (ss.map capD) = (declsD fs ss).map capD := by
  unfold declsD declsF
  rw [cap_lets, List.map_append, List.flatMap_map, List.map_flatMap]
  congr 1
  have : (fun f : FD => (capF f).p ++ letsD (capF f).b) = fun f => (f.p ++ letsD f.b).map capD := funext fun f => by
    show f.p.map capD ++ letsD (f.b.map capD) = _
    rw [cap_lets, List.map_append]
  rw [this]
theorem cap_fit1 (kvs : Kv) (d : PyData) : fit1 kvs (capD d) = fit1 kvs d := by
  unfold fit1
  rw [cap_fw, cap_nth, cap_str, cap_nth, cap_items, List.length_map]
theorem cap_fitD (kvs : Kv) (ss : List PyData) : fitD kvs (ss.map capD) = fitD kvs ss := by
  unfold fitD
  rw [List.all_map]
  have : (fit1 kvs ∘ capD) = fit1 kvs := funext (cap_fit1 kvs)
  rw [this]
theorem cap_fitF : ∀ (fs : List FD) (kvs : Kv) (ss : List PyData), fitF kvs (fs.map capF) (ss.map capD) = fitF kvs fs ss
  | [], kvs, ss => cap_fitD kvs ss
  | f :: fs, kvs, ss => by
    show (fitD kvs (f.b.map capD) && fitF (putN kvs (capF f)) (fs.map capF) (ss.map capD)) = (fitD kvs f.b && fitF (putN kvs f) fs ss)
    rw [cap_fitD, cap_fitF fs]
    have : putN kvs (capF f) = putN kvs f := by
      unfold putN capF
      rw [cap_str, List.length_map]
    rw [this]
theorem cap_prog (fs : List FD) (ss : List PyData) : progD (fs.map capF) (ss.map capD) = progD fs ss := by
  unfold progD stsD namesD kindsD kindD
  rw [cap_decls, cap_fitF]
  simp only [List.length_map, List.all_map, List.map_map]
  have e1 : (fnD ∘ capF) = fnD := funext cap_fn
  have e2 : (stmtD ∘ capD) = stmtD := funext cap_stmt
  have e3 : ((fun f : FD => strD f.n) ∘ capF) = fun f : FD => strD f.n := funext fun f => cap_str f.n
  have e4 : ((fun d => strD (nthD d 0)) ∘ capD) = fun d => strD (nthD d 0) := funext fun d => by
    show strD (nthD (capD d) 0) = _
    rw [cap_nth, cap_str]
  have e5 : (typD ∘ ((fun d => nthD d 1) ∘ capD)) = (typD ∘ fun d => nthD d 1) := funext fun d => by
    show typD (nthD (capD d) 1) = _
    rw [cap_nth, cap_typ]
    rfl
  have e6 : ((fun d => numD d 5) ∘ ((fun d => nthD d 1) ∘ capD)) = ((fun d => numD d 5) ∘ fun d => nthD d 1) := funext fun d => by
    show numD (nthD (capD d) 1) 5 = _
    rw [cap_nth, cap_num _ (by decide)]
    rfl
  rw [e1, e2, e3, e4, e5, e6]
theorem id_num {d : PyData} {m : Int} (h : numD d m = true) (l : m ≤ 1000) : capD d = d := by
  cases d with
  | int i =>
    have h' : (decide (0 ≤ i) && decide (i ≤ m)) = true := h
    rw [Bool.and_eq_true, decide_eq_true_iff, decide_eq_true_iff] at h'
    show PyData.int (min i 1001) = .int i
    rw [show min i 1001 = i from by omega]
  | _ => cases h
theorem id_name {d : PyData} (h : nameD d = true) : capD d = d := by
  cases d with
  | str x => rfl
  | _ => cases h
theorem id_map {ds : List PyData} (h : ∀ d ∈ ds, capD d = d) : ds.map capD = ds := by
  induction ds with
  | nil => rfl
  | cons d ds ih => rw [List.map_cons, h d (List.mem_cons_self ..), ih fun x m => h x (List.mem_cons_of_mem _ m)]
theorem id_typ {d : PyData} (h : typD d = true) : capD d = d := by
  cases d with
  | tuple ds =>
    rw [cap_tup, id_map fun d m => ?_]
    have h' : vtD ds = true := (Bool.and_eq_true _ _ ▸ (show (vtD ds && decide (0 < ds.length)) = true from h)).1
    unfold vtD at h'
    rw [Bool.and_eq_true] at h'
    have : irD d = true := by
      first
        | exact List.all_eq_true.mp h'.1 d m
        | exact List.all_eq_true.mp h'.2 d m
    cases d with
    | str x => rfl
    | _ => cases this
  | _ => cases h
theorem tup_len {d : PyData} (h : tagD d = "tuple") {n : Nat} (l : lenD d = n) : ∃ ds, d = .tuple ds ∧ ds.length = n := by
  obtain ⟨ds, rfl⟩ := tag_tup h
  exact ⟨ds, rfl, l⟩
theorem fw_some {d : PyData} (h : fwD d ≠ "") : ∃ x r, d = .tuple (.str x :: r) ∧ fwD d = x := by
  unfold fwD at h ⊢
  by_cases c : tagD d = "tuple" ∧ 0 < lenD d ∧ tagD (nthD d 0) = "str"
  · rw [if_pos c]
    obtain ⟨ds, rfl⟩ := tag_tup c.1
    cases ds with
    | nil => exact absurd c.2.1 (by decide)
    | cons a r =>
      obtain ⟨x, e⟩ := tag_str c.2.2
      have e' : a = .str x := e
      exact ⟨x, r, by rw [e'], by rw [e]; rfl⟩
  · rw [if_neg c] at h
    exact absurd rfl h
theorem id_place {d : PyData} (h : placeD d = true) : capD d = d := by
  unfold placeD at h
  rw [Bool.and_eq_true, Bool.and_eq_true, Bool.and_eq_true, decide_eq_true_iff, decide_eq_true_iff] at h
  obtain ⟨⟨h1, h2⟩, h3, h4⟩ := h
  obtain ⟨ds, rfl, l⟩ := tup_len h1 h2
  match ds, l with
  | [a, b], _ =>
    rw [cap_tup]
    show PyData.tuple [capD a, capD b] = _
    rw [id_name (d := a) h3, id_num (d := b) h4 (by decide)]
theorem id_src {d : PyData} (h : srcD d = true) : capD d = d := by
  have ne : fwD d ≠ "" := fun z => by
    unfold srcD at h
    rw [z, if_neg (by decide), if_neg (by decide), show inV (.str "") [.str "value", .str "address"] = false from by decide +kernel] at h
    cases h
  obtain ⟨x, r, rfl, ex⟩ := fw_some ne
  unfold srcD at h
  rw [ex] at h
  by_cases c : x = "null"
  · rw [if_pos c] at h
    have l : (PyData.str x :: r).length = 1 := of_decide_eq_true h
    cases r with
    | nil => rfl
    | cons => simp at l
  · rw [if_neg c] at h
    by_cases c2 : x = "number"
    · rw [if_pos c2, Bool.and_eq_true] at h
      have l : (PyData.str x :: r).length = 2 := of_decide_eq_true h.1
      match r, l with
      | [b], _ =>
        rw [cap_tup]
        show PyData.tuple [.str x, capD b] = _
        rw [id_num (d := b) h.2 (by decide)]
    · rw [if_neg c2, Bool.and_eq_true, Bool.and_eq_true] at h
      have l : (PyData.str x :: r).length = 2 := of_decide_eq_true h.2.1
      match r, l with
      | [b], _ =>
        rw [cap_tup]
        show PyData.tuple [.str x, capD b] = _
        rw [id_place (d := b) h.2.2]
theorem id_decl {d : PyData} (h : declD d = true) : capD d = d := by
  unfold declD at h
  rw [Bool.and_eq_true, Bool.and_eq_true, Bool.and_eq_true, decide_eq_true_iff, decide_eq_true_iff] at h
  obtain ⟨⟨h1, h2⟩, h3, h4⟩ := h
  obtain ⟨ds, rfl, l⟩ := tup_len h1 h2
  match ds, l with
  | [a, b], _ =>
    rw [cap_tup]
    show PyData.tuple [capD a, capD b] = _
    have eb : capD b = b := by
      rw [Bool.or_eq_true] at h4
      rcases h4 with h4 | h4
      · exact id_typ (d := b) h4
      · exact id_num (d := b) h4 (by decide)
    rw [id_name (d := a) h3, eb]
theorem id_stmt {d : PyData} (h : stmtD d = true) : capD d = d := by
  have ne : fwD d ≠ "" := fun z => by
    unfold stmtD at h
    rw [z, if_neg (by decide), if_neg (by decide)] at h
    rw [Bool.and_eq_true, decide_eq_true_iff] at h
    exact absurd h.1 (by decide)
  obtain ⟨x, r, rfl, ex⟩ := fw_some ne
  unfold stmtD at h
  rw [ex] at h
  by_cases c : x = "let"
  · rw [if_pos c, Bool.and_eq_true, Bool.and_eq_true] at h
    have l : (PyData.str x :: r).length = 4 := of_decide_eq_true h.1
    match r, l with
    | [a, b, s], _ =>
      have h2 : declD (.tuple [a, b]) = true := h.2.1
      have e := id_decl h2
      rw [cap_tup] at e
      have e' : [capD a, capD b] = [a, b] := PyData.tuple.inj e
      rw [cap_tup]
      show PyData.tuple [.str x, capD a, capD b, capD s] = _
      rw [id_src (d := s) h.2.2]
      injection e' with e1 e2
      injection e2 with e2 _
      rw [e1, e2]
  · rw [if_neg c] at h
    by_cases c2 : x = "put"
    · rw [if_pos c2, Bool.and_eq_true, Bool.and_eq_true] at h
      have l : (PyData.str x :: r).length = 3 := of_decide_eq_true h.1
      match r, l with
      | [a, b], _ =>
        rw [cap_tup]
        show PyData.tuple [.str x, capD a, capD b] = _
        rw [id_place (d := a) h.2.1, id_src (d := b) h.2.2]
    · rw [if_neg c2, Bool.and_eq_true, Bool.and_eq_true, Bool.and_eq_true] at h
      have l : (PyData.str x :: r).length = 3 := of_decide_eq_true h.2.1
      match r, l with
      | [a, b], _ =>
        rw [cap_tup]
        show PyData.tuple [.str x, capD a, capD b] = _
        have h3 : srcsD b = true := h.2.2.2
        unfold srcsD at h3
        rw [Bool.and_eq_true, decide_eq_true_iff] at h3
        obtain ⟨ds, rfl⟩ := tag_lst h3.1
        have e : capD (.list ds) = .list ds := by
          have := id_map (ds := ds) fun d m => id_src (List.all_eq_true.mp h3.2 d m)
          rw [cap_lst, this]
        rw [id_name (d := a) h.2.2.1, e]
theorem id_fn {f : FD} (h : fnD f = true) : capF f = f := by
  unfold fnD stsD at h
  rw [Bool.and_eq_true, Bool.and_eq_true, Bool.and_eq_true, Bool.and_eq_true] at h
  obtain ⟨⟨h1, _, h2⟩, _, h3⟩ := h
  unfold capF
  rw [id_name h1, id_map fun d m => id_decl (List.all_eq_true.mp h2 d m), id_map fun d m => id_stmt (List.all_eq_true.mp h3 d m)]
theorem id_prog {fs : List FD} {ss : List PyData} (h : progD fs ss = true) : fs.map capF = fs ∧ ss.map capD = ss := by
  unfold progD stsD at h
  rw [Bool.and_eq_true, Bool.and_eq_true, Bool.and_eq_true, Bool.and_eq_true] at h
  obtain ⟨⟨⟨_, h1⟩, _, h2⟩, _⟩ := h
  refine ⟨?_, id_map fun d m => id_stmt (List.all_eq_true.mp h2 d m)⟩
  have : ∀ l : List FD, (∀ f ∈ l, capF f = f) → l.map capF = l := fun l => by
    induction l with
    | nil => intro _; rfl
    | cons f l ih => intro h; rw [List.map_cons, h f (List.mem_cons_self ..), ih fun x m => h x (List.mem_cons_of_mem _ m)]
  exact this fs fun f m => id_fn (List.all_eq_true.mp h1 f m)
end Ver
set_option Elab.async false
set_option linter.all false
set_option maxRecDepth 100000
set_option maxHeartbeats 4000000
namespace Ver
open PySem PySem.Spec PyProof.Rows L2 Evl TL
def runL (nv : NV) : Rs → Nat → List Ln → Nat ⊕ Rs
  | s, _, [] => .inr s
  | s, k, l :: ls => match stepL nv s l with
    | some s' => runL nv s' (k + 1) ls
    | none => .inl k
def resL (nv : NV) (t : Ln) : PyData :=
  match runL nv rs0 0 (if (spl [10] 0 [] t).getLastD [] = [] then (spl [10] 0 [] t).dropLast else spl [10] 0 [] t) with
  | .inl k => .list [.int (k : Nat), .str "unexpected"]
  | .inr s => if (spl [10] 0 [] t).getLastD [] ≠ [] ∨ s.hd.isSome = true then .list [.int (((spl [10] 0 [] t).length - 1 : Nat) : Int), .str "too short"]
    else if progD s.fs s.ss = true then .list [.list (s.fs.map fdat), .list s.ss] else .list [.int (((spl [10] 0 [] t).length - 1 : Nat) : Int), .str "no program"]
/-- numbers within the bounds are read alike -/
def Agr (n1 n2 : NV) : Prop := ∀ l, nuL l = true → min (n1 l) 1001 = min (n2 l) 1001
theorem cap_int {a b : Nat} (h : min a 1001 = min b 1001) : capD (.int (a : Nat)) = capD (.int (b : Nat)) := by
  show PyData.int (min (a : Int) 1001) = .int (min (b : Int) 1001)
  rw [show min (a : Int) 1001 = min (b : Int) 1001 from by omega]
section
variable {n1 n2 : NV} (ag : Agr n1 n2)
include ag
theorem kd_agr (l : Ln) : (kdL n1 l).map capD = (kdL n2 l).map capD := by
  unfold kdL
  by_cases a : (spW l).all (fun w => decide (w ∈ RT)) = true
  · rw [if_pos a, if_pos a]
  · rw [if_neg a, if_neg a]
    by_cases b : nuL l = true
    · rw [if_pos b, if_pos b]
      exact congrArg some (cap_int (ag l b))
    · rw [if_neg b, if_neg b]
theorem dc_agr (l : Ln) : (dcL n1 l).map (fun q => (q.1, capD q.2)) = (dcL n2 l).map (fun q => (q.1, capD q.2)) := by
  unfold dcL
  cases par (tl " : ") [] l with
  | none => rfl
  | some ab =>
    obtain ⟨a, b⟩ := ab
    show Option.map _ (if nmL a = true then _ else none) = Option.map _ (if nmL a = true then _ else none)
    by_cases n : nmL a = true
    · rw [if_pos n, if_pos n, Option.map_map, Option.map_map]
      have := congrArg (Option.map fun k => (mkS a, k)) (kd_agr ag b)
      rw [Option.map_map, Option.map_map] at this
      exact this
    · rw [if_neg n, if_neg n]
theorem sr_agr (l : Ln) : (srL n1 l).map capD = (srL n2 l).map capD := by
  unfold srL
  by_cases a : l = tl "null"
  · rw [if_pos a, if_pos a]
  · rw [if_neg a, if_neg a]
    by_cases b : nuL l = true
    · rw [if_pos b, if_pos b]
      show some (capD (.tuple [.str "number", .int (n1 l)])) = some (capD (.tuple [.str "number", .int (n2 l)]))
      rw [cap_tup, cap_tup]
      show some (PyData.tuple [.str "number", capD (.int (n1 l))]) = some (PyData.tuple [.str "number", capD (.int (n2 l))])
      rw [cap_int (ag l b)]
    · rw [if_neg b, if_neg b]
theorem oAll_agr {α β γ : Type} {f g : α → Option β} {c : β → γ} (h : ∀ a, (f a).map c = (g a).map c) : ∀ l, (oAll f l).map (List.map c) = (oAll g l).map (List.map c)
  | [] => rfl
  | a :: l => by
    have ih := oAll_agr h l
    have ha := h a
    unfold oAll
    cases hf : f a with
    | none =>
      rw [hf] at ha
      cases hg : g a with
      | none => rfl
      | some b => rw [hg] at ha; cases ha
    | some b =>
      rw [hf] at ha
      cases hg : g a with
      | none => rw [hg] at ha; cases ha
      | some b' =>
        rw [hg] at ha
        cases hl : oAll f l with
        | none =>
          rw [hl] at ih
          cases hm : oAll g l with
          | none => rfl
          | some m => rw [hm] at ih; cases ih
        | some m =>
          rw [hl] at ih
          cases hm : oAll g l with
          | none => rw [hm] at ih; cases ih
          | some m' =>
            rw [hm] at ih
            have e1 : c b = c b' := Option.some.inj ha
            have e2 : m.map c = m'.map c := Option.some.inj ih
            show some (c b :: m.map c) = some (c b' :: m'.map c)
            rw [e1, e2]
theorem hd_agr (l : Ln) : (hdL n1 l).map (fun q => (q.1, q.2.map capD)) = (hdL n2 l).map (fun q => (q.1, q.2.map capD)) := by
  unfold hdL
  by_cases a : l.take 4 = tl "def "
  · rw [if_pos a, if_pos a]
    cases clL (l.drop 4) with
    | none => rfl
    | some q =>
      show Option.map _ (Option.map _ (oAll (dcL n1) q.2)) = Option.map _ (Option.map _ (oAll (dcL n2) q.2))
      have := oAll_agr ag (f := dcL n1) (g := dcL n2) (c := fun q => (q.1, capD q.2)) (dc_agr ag) q.2
      rw [Option.map_map, Option.map_map]
      have h2 := congrArg (Option.map fun ps : List (Str × PyData) => (q.1, ps.map dcD)) this
      rw [Option.map_map, Option.map_map] at h2
      have e : ((fun q : Str × List PyData => (q.1, q.2.map capD)) ∘ fun ps : List (Str × PyData) => (q.1, ps.map dcD)) = ((fun ps : List (Str × PyData) => (q.1, ps.map dcD)) ∘ List.map fun q => (q.1, capD q.2)) := funext fun ps => by
        show (q.1, (ps.map dcD).map capD) = (q.1, (ps.map fun q => (q.1, capD q.2)).map dcD)
        rw [List.map_map, List.map_map]
        have : (capD ∘ dcD) = (dcD ∘ fun q : Str × PyData => (q.1, capD q.2)) := funext fun q => by
          show capD (.tuple [.str q.1, q.2]) = _
          rw [cap_tup]
          rfl
        rw [this]
      rw [e]
      exact h2
  · rw [if_neg a, if_neg a]
theorem lt_agr (l : Ln) : (ltL n1 l).map capD = (ltL n2 l).map capD := by
  unfold ltL
  cases par (tl " = ") [] l with
  | none => rfl
  | some ab =>
    obtain ⟨a, b⟩ := ab
    have hd := dc_agr ag a
    have hs := sr_agr ag b
    show Option.map capD ((dcL n1 a).bind _) = Option.map capD ((dcL n2 a).bind _)
    cases h1 : dcL n1 a with
    | none =>
      rw [h1] at hd
      cases h2 : dcL n2 a with
      | none => rfl
      | some q => rw [h2] at hd; cases hd
    | some q =>
      rw [h1] at hd
      cases h2 : dcL n2 a with
      | none => rw [h2] at hd; cases hd
      | some q' =>
        rw [h2] at hd
        obtain ⟨x, k⟩ := q
        obtain ⟨x', k'⟩ := q'
        have e0 : (x, capD k) = (x', capD k') := Option.some.inj hd
        injection e0 with e1 e2
        subst e1
        cases g1 : srL n1 b with
        | none =>
          rw [g1] at hs
          cases g2 : srL n2 b with
          | none => rfl
          | some s => rw [g2] at hs; cases hs
        | some s =>
          rw [g1] at hs
          cases g2 : srL n2 b with
          | none => rw [g2] at hs; cases hs
          | some s' =>
            rw [g2] at hs
            have e3 : capD s = capD s' := Option.some.inj hs
            show some (capD (.tuple [.str "let", .str x, k, s])) = some (capD (.tuple [.str "let", .str x, k', s']))
            rw [cap_tup, cap_tup]
            show some (PyData.tuple [.str "let", .str x, capD k, capD s]) = some (PyData.tuple [.str "let", .str x, capD k', capD s'])
            rw [e2, e3]
theorem pt_agr (l : Ln) : (ptL n1 l).map capD = (ptL n2 l).map capD := by
  unfold ptL
  cases par (tl " = ") [] l with
  | none => rfl
  | some ab =>
    obtain ⟨a, b⟩ := ab
    have hs := sr_agr ag b
    show Option.map capD ((plL a).bind _) = Option.map capD ((plL a).bind _)
    cases plL a with
    | none => rfl
    | some q =>
      cases g1 : srL n1 b with
      | none =>
        rw [g1] at hs
        cases g2 : srL n2 b with
        | none => rfl
        | some s => rw [g2] at hs; cases hs
      | some s =>
        rw [g1] at hs
        cases g2 : srL n2 b with
        | none => rw [g2] at hs; cases hs
        | some s' =>
          rw [g2] at hs
          have e3 : capD s = capD s' := Option.some.inj hs
          show some (capD (.tuple [.str "put", plD q.1 q.2, s])) = some (capD (.tuple [.str "put", plD q.1 q.2, s']))
          rw [cap_tup, cap_tup]
          show some (PyData.tuple [.str "put", capD (plD q.1 q.2), capD s]) = some (PyData.tuple [.str "put", capD (plD q.1 q.2), capD s'])
          rw [e3]
theorem ca_agr (l : Ln) : (caL n1 l).map capD = (caL n2 l).map capD := by
  unfold caL
  cases clL l with
  | none => rfl
  | some q =>
    have h := oAll_agr ag (f := srL n1) (g := srL n2) (c := capD) (sr_agr ag) q.2
    show Option.map capD (Option.map _ (oAll (srL n1) q.2)) = Option.map capD (Option.map _ (oAll (srL n2) q.2))
    cases g1 : oAll (srL n1) q.2 with
    | none =>
      rw [g1] at h
      cases g2 : oAll (srL n2) q.2 with
      | none => rfl
      | some s => rw [g2] at h; cases h
    | some s =>
      rw [g1] at h
      cases g2 : oAll (srL n2) q.2 with
      | none => rw [g2] at h; cases h
      | some s' =>
        rw [g2] at h
        have e3 : s.map capD = s'.map capD := Option.some.inj h
        show some (capD (.tuple [.str "call", .str q.1, .list s])) = some (capD (.tuple [.str "call", .str q.1, .list s']))
        rw [cap_tup, cap_tup]
        show some (PyData.tuple [.str "call", .str q.1, capD (.list s)]) = some (PyData.tuple [.str "call", .str q.1, capD (.list s')])
        rw [cap_lst, cap_lst, e3]
theorem st_agr (l : Ln) : (stL n1 l).map capD = (stL n2 l).map capD := by
  unfold stL
  by_cases a : l.take 4 = tl "let "
  · rw [if_pos a, if_pos a]
    exact lt_agr ag _
  · rw [if_neg a, if_neg a]
    by_cases b : l.take 4 = tl "put "
    · rw [if_pos b, if_pos b]
      exact pt_agr ag _
    · rw [if_neg b, if_neg b]
      by_cases c : l.take 5 = tl "call "
      · rw [if_pos c, if_pos c]
        exact ca_agr ag _
      · rw [if_neg c, if_neg c]
def capR (s : Rs) : Rs := ⟨s.fs.map capF, s.ss.map capD, s.hd.map fun q => (q.1, q.2.map capD), s.bd.map capD⟩
omit ag in
theorem map_nil_iff {α β : Type} {f : α → β} {a : List α} {b : List α} (h : a.map f = b.map f) : a = [] ↔ b = [] := by
  rw [← List.map_eq_nil_iff (f := f), h, List.map_eq_nil_iff]
omit ag in
theorem opt_two {α β : Type} {f : α → β} {a b : Option α} (h : a.map f = b.map f) : (a = none ∧ b = none) ∨ ∃ x y, a = some x ∧ b = some y ∧ f x = f y := by
  cases a with
  | none =>
    cases b with
    | none => exact .inl ⟨rfl, rfl⟩
    | some y => cases h
  | some x =>
    cases b with
    | none => cases h
    | some y => exact .inr ⟨x, y, rfl, rfl, Option.some.inj h⟩
theorem step_agr {s1 s2 : Rs} (h : capR s1 = capR s2) (l : Ln) : (stepL n1 s1 l).map capR = (stepL n2 s2 l).map capR := by
  obtain ⟨f1, c1, h1, b1⟩ := s1
  obtain ⟨f2, c2, h2, b2⟩ := s2
  unfold capR at h
  simp only [Rs.mk.injEq] at h
  obtain ⟨ef, ec, eh, eb⟩ := h
  have hst : ∀ l, (stL n1 l).map capD = (stL n2 l).map capD := st_agr ag
  rcases opt_two eh with ⟨rfl, rfl⟩ | ⟨q1, q2, rfl, rfl, eq⟩
  · have ec0 := map_nil_iff ec
    have hh : Option.map (fun q => (q.1, q.2.map capD)) (if c1 = [] then hdL n1 l else none) = Option.map (fun q => (q.1, q.2.map capD)) (if c2 = [] then hdL n2 l else none) := by
      by_cases z : c1 = []
      · rw [if_pos z, if_pos (ec0.mp z)]
        exact hd_agr ag l
      · rw [if_neg z, if_neg (fun y => z (ec0.mpr y))]
    show Option.map capR (match (if c1 = [] then hdL n1 l else none) with
      | some q => some ⟨f1, c1, some q, []⟩
      | none => (stL n1 l).map fun d => ⟨f1, c1 ++ [d], none, []⟩) = Option.map capR (match (if c2 = [] then hdL n2 l else none) with
      | some q => some ⟨f2, c2, some q, []⟩
      | none => (stL n2 l).map fun d => ⟨f2, c2 ++ [d], none, []⟩)
    rcases opt_two hh with ⟨z1, z2⟩ | ⟨p1, p2, z1, z2, ez⟩
    · rw [z1, z2]
      rcases opt_two (hst l) with ⟨y1, y2⟩ | ⟨d1, d2, y1, y2, ey⟩
      · rw [y1, y2]; rfl
      · rw [y1, y2]
        show some (capR ⟨f1, c1 ++ [d1], none, []⟩) = some (capR ⟨f2, c2 ++ [d2], none, []⟩)
        unfold capR
        simp only [List.map_append, ef, ec, List.map_cons, ey]
    · rw [z1, z2]
      show some (capR ⟨f1, c1, some p1, []⟩) = some (capR ⟨f2, c2, some p2, []⟩)
      unfold capR
      simp only [ef, ec, Option.map_some, ez]
  · show Option.map capR (if l = tl "end" then _ else if l.take 2 = tl "  " then (stL n1 (l.drop 2)).map _ else none) = Option.map capR (if l = tl "end" then _ else if l.take 2 = tl "  " then (stL n2 (l.drop 2)).map _ else none)
    by_cases a : l = tl "end"
    · rw [if_pos a, if_pos a]
      show some (capR ⟨f1 ++ [⟨.str q1.1, q1.2, b1⟩], c1, none, []⟩) = some (capR ⟨f2 ++ [⟨.str q2.1, q2.2, b2⟩], c2, none, []⟩)
      injection eq with e1 e2
      unfold capR
      simp only [List.map_append, ef, ec, List.map_cons, capF, e1, e2, eb]
    · rw [if_neg a, if_neg a]
      by_cases b : l.take 2 = tl "  "
      · rw [if_pos b, if_pos b]
        rcases opt_two (hst (l.drop 2)) with ⟨y1, y2⟩ | ⟨d1, d2, y1, y2, ey⟩
        · rw [y1, y2]; rfl
        · rw [y1, y2]
          show some (capR ⟨f1, c1, some q1, b1 ++ [d1]⟩) = some (capR ⟨f2, c2, some q2, b2 ++ [d2]⟩)
          unfold capR
          simp only [List.map_append, ef, ec, List.map_cons, ey, eb, Option.map_some, eq]
      · rw [if_neg b, if_neg b]
theorem run_agr : ∀ (ls : List Ln) (k : Nat) {s1 s2 : Rs}, capR s1 = capR s2 → (∃ j, runL n1 s1 k ls = .inl j ∧ runL n2 s2 k ls = .inl j) ∨ ∃ r1 r2, runL n1 s1 k ls = .inr r1 ∧ runL n2 s2 k ls = .inr r2 ∧ capR r1 = capR r2
  | [], k, s1, s2, h => .inr ⟨s1, s2, rfl, rfl, h⟩
  | l :: ls, k, s1, s2, h => by
    rcases opt_two (step_agr ag h l) with ⟨z1, z2⟩ | ⟨t1, t2, z1, z2, ez⟩
    · refine .inl ⟨k, ?_, ?_⟩
      · show (match stepL n1 s1 l with | some s' => runL n1 s' (k + 1) ls | none => .inl k) = _
        rw [z1]
      · show (match stepL n2 s2 l with | some s' => runL n2 s' (k + 1) ls | none => .inl k) = _
        rw [z2]
    · have e1 : runL n1 s1 k (l :: ls) = runL n1 t1 (k + 1) ls := by
        show (match stepL n1 s1 l with | some s' => runL n1 s' (k + 1) ls | none => .inl k) = _
        rw [z1]
      have e2 : runL n2 s2 k (l :: ls) = runL n2 t2 (k + 1) ls := by
        show (match stepL n2 s2 l with | some s' => runL n2 s' (k + 1) ls | none => .inl k) = _
        rw [z2]
      rw [e1, e2]
      exact run_agr ls (k + 1) ez
theorem res_agr (t : Ln) : resL n1 t = resL n2 t := by
  unfold resL
  rcases run_agr ag (if (spl [10] 0 [] t).getLastD [] = [] then (spl [10] 0 [] t).dropLast else spl [10] 0 [] t) 0 (s1 := rs0) (s2 := rs0) rfl with ⟨j, z1, z2⟩ | ⟨r1, r2, z1, z2, ez⟩
  · rw [z1, z2]
  · rw [z1, z2]
    obtain ⟨f1, c1, h1, b1⟩ := r1
    obtain ⟨f2, c2, h2, b2⟩ := r2
    unfold capR at ez
    simp only [Rs.mk.injEq] at ez
    obtain ⟨ef, ec, eh, eb⟩ := ez
    have ei : h1.isSome = h2.isSome := by rcases opt_two eh with ⟨rfl, rfl⟩ | ⟨q1, q2, rfl, rfl, eq⟩ <;> rfl
    have ep : progD f1 c1 = progD f2 c2 := by rw [← cap_prog f1, ← cap_prog f2, ef, ec]
    show (if _ ∨ h1.isSome = true then _ else if progD f1 c1 = true then _ else _) = (if _ ∨ h2.isSome = true then _ else if progD f2 c2 = true then _ else _)
    rw [ei, ep]
    by_cases c : progD f2 c2 = true
    · have i1 := id_prog (ep.trans c)
      have i2 := id_prog c
      rw [i1.1, i2.1] at ef
      rw [i1.2, i2.2] at ec
      rw [ef, ec]
    · simp only [if_neg c]
end
def nvL : NV := NumText.digitsVal
def nvP : NV := fun l => NumText.digitsVal (l.take 9)
theorem dv_snoc (l : Ln) (c : Nat) : NumText.digitsVal (l ++ [c]) = NumText.digitsVal l * 10 + (c - 48) := by
  unfold NumText.digitsVal
  rw [List.foldl_append]
  rfl
theorem dv_ge : ∀ {l r : Ln}, NumText.digitsVal l ≤ NumText.digitsVal (l ++ r)
  | l, [] => by rw [List.append_nil]; exact Nat.le_refl _
  | l, c :: r => by
    have h1 : NumText.digitsVal l ≤ NumText.digitsVal (l ++ [c]) := by rw [dv_snoc]; omega
    have h2 := dv_ge (l := l ++ [c]) (r := r)
    rw [show l ++ c :: r = (l ++ [c]) ++ r from by simp]
    omega
theorem nu_dig {l : Ln} (h : nuL l = true) : ∀ c ∈ l, 48 ≤ c ∧ c ≤ 57 := fun c m => by
  unfold nuL at h
  rw [Bool.and_eq_true, Bool.and_eq_true] at h
  exact (digB_iff c).mp (List.all_eq_true.mp h.1.2 c m)
theorem agr_lp : Agr nvP nvL := fun l h => by
  unfold nvP nvL
  by_cases c : l.length ≤ 9
  · rw [List.take_of_length_le c]
  · have hge : 1001 ≤ NumText.digitsVal (l.take 9) := by
      match l, h, c with
      | a :: b :: c1 :: d :: e :: f :: g :: i :: j :: r, h, _ =>
        have hd := nu_dig h
        have h0 : a ≠ 48 := fun z => by
          unfold nuL at h
          rw [Bool.and_eq_true, Bool.not_eq_true', z] at h
          have := h.2
          simp at this
        have := hd a (List.mem_cons_self ..)
        show 1001 ≤ NumText.digitsVal [a, b, c1, d, e, f, g, i, j]
        unfold NumText.digitsVal
        simp only [List.foldl_cons, List.foldl_nil]
        omega
      | [], _, c => simp at c
      | [_], _, c => simp at c
      | [_, _], _, c => simp at c
      | [_, _, _], _, c => simp at c
      | [_, _, _, _], _, c => simp at c
      | [_, _, _, _, _], _, c => simp at c
      | [_, _, _, _, _, _], _, c => simp at c
      | [_, _, _, _, _, _, _], _, c => simp at c
      | [_, _, _, _, _, _, _, _], _, c => simp at c
    have h2 := dv_ge (l := l.take 9) (r := l.drop 9)
    rw [List.take_append_drop] at h2
    omega
theorem res_lp (t : Ln) : resL nvP t = resL nvL t := res_agr agr_lp t
end Ver
set_option Elab.async false
set_option linter.all false
set_option maxRecDepth 100000
set_option maxHeartbeats 4000000
namespace Ver
open PySem PySem.Spec PyProof.Rows L2 Evl TL
def kdX (sk : Bool) (T : List R) : Ln := if sk = true then numL (T.length - 1) else joinL [32] (T.map fun r => tl r.s)
def kdY (sk : Bool) (T : List R) : PyData := if sk = true then dpt T else ru T
def plX (x : Str) (k : Nat) : Ln := List.replicate k 42 ++ tl x
def srX : Src → Ln
  | .num n => numL n.toNat
  | .null => tl "null"
  | .val x k => plX x k
  | .adr x k => 38 :: plX x k
def dcX (sk : Bool) (q : Str × List R) : Ln := tl q.1 ++ (tl " : " ++ kdX sk q.2)
def stX (sk : Bool) : Stm → Ln
  | .lt x T s => tl "let " ++ (dcX sk (x, T) ++ (tl " = " ++ srX s))
  | .put x k s => tl "put " ++ (plX x k ++ (tl " = " ++ srX s))
  | .call f us => tl "call " ++ (tl f ++ ([40] ++ (joinL (tl ", ") (us.map srX) ++ [41])))
def hdX (sk : Bool) (f : TF) : Ln := tl "def " ++ (tl f.n ++ ([40] ++ (joinL (tl ", ") (f.p.map (dcX sk)) ++ [41])))
def fnX (sk : Bool) (f : TF) : List Ln := (hdX sk f :: f.b.map fun s => tl "  " ++ stX sk s) ++ [tl "end"]
def lnX (sk : Bool) (fs : List TF) (ss : List Stm) : List Ln := fs.flatMap (fnX sk) ++ ss.map (stX sk)
def txX (sk : Bool) (fs : List TF) (ss : List Stm) : Ln := (lnX sk fs ss).flatMap (· ++ [10])
def stY (sk : Bool) (s : Stm) : PyData := if sk = true then sks s else stD s
def pdY (sk : Bool) (q : Str × List R) : PyData := if sk = true then skp q else pD q
def fdY (sk : Bool) (f : TF) : FD := ⟨.str f.n, f.p.map (pdY sk), f.b.map (stY sk)⟩
def pgY (sk : Bool) (fs : List TF) (ss : List Stm) : PyData := .list [.list ((fs.map (fdY sk)).map fdat), .list (ss.map (stY sk))]
theorem fdY_t (f : TF) : fdY true f = sfd f := by
  unfold fdY sfd
  have e1 : pdY true = skp := funext fun q => rfl
  have e2 : stY true = sks := funext fun q => rfl
  rw [e1, e2]
theorem fdY_f (f : TF) : fdY false f = f.fd := by
  unfold fdY TF.fd
  have e1 : pdY false = pD := funext fun q => rfl
  have e2 : stY false = stD := funext fun q => rfl
  rw [e1, e2]
theorem prog_Y {sk : Bool} {fs : List TF} {ss : List Stm} (ok : POk fs ss) : progD (fs.map (fdY sk)) (ss.map (stY sk)) = true := by
  cases sk with
  | true =>
    rw [show fdY true = sfd from funext fdY_t, show stY true = sks from rfl]
    exact sk_prog ok
  | false =>
    rw [show fdY false = TF.fd from funext fdY_f, show stY false = stD from rfl]
    exact prog_ok ok
theorem nm_low {x : Str} (h : nmO x) : nmL (tl x) = true ∧ x ≠ "null" ∧ (tl x).length ≤ 8 := by
  have h' : (!decide (x = "null") && (decide (1 ≤ x.length) && decide (x.length ≤ 8)) && x.cps.toList.all sgOk) = true := h
  rw [Bool.and_eq_true, Bool.and_eq_true, Bool.and_eq_true, decide_eq_true_iff, decide_eq_true_iff, Bool.not_eq_true', decide_eq_false_iff_not] at h'
  obtain ⟨⟨h1, h2, h3⟩, h4⟩ := h'
  rw [len_tl] at h2 h3
  refine ⟨?_, h1, h3⟩
  unfold nmL
  rw [Bool.and_eq_true, decide_eq_true_iff]
  refine ⟨by omega, ?_⟩
  rw [← show sgOk = lowB from funext sgOk_low]
  exact h4
theorem nm_ne {x : Str} (h : nmO x) : tl x ≠ [] := fun z => by
  have := (nm_low h).1
  rw [z] at this
  cases this
theorem nm_c {x : Str} (h : nmO x) {c : Nat} (m : c ∈ tl x) : 97 ≤ c ∧ c ≤ 122 := nm_sign (nm_low h).1 m
theorem num_head : ∀ n : Nat, 0 < n → (numL n).head? ≠ some 48 := by
  intro n
  induction n using Nat.strongRecOn with
  | _ n ih =>
    intro h0
    by_cases h : n < 10
    · rw [numL_lt h]
      show some (48 + n) ≠ some 48
      intro z
      injection z with z
      omega
    · rw [numL_step (by omega)]
      have := ih (n / 10) (by omega) (by omega)
      have ne := numL_ne (n / 10)
      cases hn : numL (n / 10) with
      | nil => exact absurd hn ne
      | cons a r =>
        rw [hn] at this
        exact this
theorem num_nu (n : Nat) : nuL (numL n) = true := by
  unfold nuL
  rw [Bool.and_eq_true, Bool.and_eq_true, decide_eq_true_iff]
  refine ⟨⟨List.length_pos_iff.mpr (numL_ne n), List.all_eq_true.mpr fun c m => (digB_iff c).mpr (numL_digits n c m)⟩, ?_⟩
  rw [Bool.not_eq_true']
  by_cases h : n = 0
  · subst h
    decide +kernel
  · rw [decide_eq_false (num_head n (by omega)), Bool.false_and]
theorem num_val {n : Nat} (h : n ≤ 1000) : nvP (numL n) = n := by
  unfold nvP
  rw [List.take_of_length_le, numL_val]
  exact Nat.le_trans (numL_len (n := n) (k := 4) (by decide) (by omega)) (by decide)
theorem num_len4 {n : Nat} (h : n ≤ 1000) : (numL n).length ≤ 4 := numL_len (by decide) (by omega)
theorem rt_eq : RT = [[114, 119], [114], [119], [45]] := by decide +kernel
theorem kd_rd {sk : Bool} {T : List R} (h : tyO T) : kdL nvP (kdX sk T) = some (kdY sk T) := by
  obtain ⟨h1, h2⟩ := h
  cases sk with
  | false =>
    have e : spW (kdX false T) = T.map fun r => tl r.s := by
      show spl [32] 0 [] (joinL [32] (T.map fun r => tl r.s)) = _
      refine spl_join (fun z => ?_) fun p m => ?_
      · rw [List.map_eq_nil_iff] at z
        rw [z] at h1
        exact absurd h1 (by decide)
      · obtain ⟨r, _, rfl⟩ := List.mem_map.mp m
        cases r <;> decide +kernel
    unfold kdL
    rw [e, if_pos]
    · rw [List.map_map]
      rfl
    · rw [List.all_map, List.all_eq_true]
      intro r _
      cases r <;> decide +kernel
  | true =>
    show kdL nvP (numL (T.length - 1)) = some (.int ((T.length : Int) - 1))
    unfold kdL
    rw [if_neg, if_pos (num_nu _), num_val (by omega)]
    · exact congrArg (fun i : Int => some (PyData.int i)) (by omega)
    · have hn := numL_lt (n := T.length - 1) (by omega)
      rw [hn]
      have : spW [48 + (T.length - 1)] = [[48 + (T.length - 1)]] := by
        show spl [32] 0 [] _ = _
        have := spl_last1 (s := 32) (S := []) (p := [48 + (T.length - 1)]) (acc := []) (by simp; omega)
        rw [this, List.nil_append]
      rw [this, rt_eq, List.all_eq_true]
      intro z
      have := of_decide_eq_true (z [48 + (T.length - 1)] (by simp))
      simp at this
      omega
theorem dc_rd {sk : Bool} {q : Str × List R} (h : nmO q.1) (t : tyO q.2) : dcL nvP (dcX sk q) = some (q.1, kdY sk q.2) :=
  dc_some.mpr ⟨tl q.1, kdX sk q.2, _, rfl, (nm_low h).1, kd_rd t, by rw [mkS_tl]⟩
theorem pl_rd {x : Str} (h : nmO x) (k : Nat) : plL (plX x k) = some (x, k) := by
  have dw : ∀ k, (plX x k).dropWhile (· == 42) = tl x := by
    intro k
    unfold plX
    induction k with
    | zero =>
      cases hx : tl x with
      | nil => exact absurd hx (nm_ne h)
      | cons c r =>
        have := nm_c h (c := c) (by rw [hx]; exact List.mem_cons_self ..)
        show (c :: r).dropWhile (· == 42) = c :: r
        rw [List.dropWhile_cons, if_neg (by simp; omega)]
    | succ k ih =>
      rw [List.replicate_succ, List.cons_append, List.dropWhile_cons, if_pos (by simp)]
      exact ih
  unfold plL
  rw [dw, if_pos (nm_low h).1, mkS_tl]
  unfold plX
  rw [List.length_append, List.length_replicate, Nat.add_sub_cancel]
theorem pl_letter {x : Str} (h : nmO x) (k : Nat) : ∃ c ∈ plX x k, 97 ≤ c := by
  cases hx : tl x with
  | nil => exact absurd hx (nm_ne h)
  | cons c r =>
    refine ⟨c, ?_, (nm_c h (c := c) (by rw [hx]; exact List.mem_cons_self ..)).1⟩
    unfold plX
    rw [hx]
    simp
theorem pl_nu {x : Str} (h : nmO x) (k : Nat) {p : Ln} : nuL (p ++ plX x k) = false := by
  obtain ⟨c, m, hc⟩ := pl_letter h k
  cases z : nuL (p ++ plX x k) with
  | false => rfl
  | true =>
    have := nu_dig z c (List.mem_append_right _ m)
    omega
theorem pl_head {x : Str} (h : nmO x) (k : Nat) : ∃ c r, plX x k = c :: r ∧ (c = 42 ∨ 97 ≤ c) := by
  cases k with
  | zero =>
    cases hx : tl x with
    | nil => exact absurd hx (nm_ne h)
    | cons c r => exact ⟨c, r, by unfold plX; rw [hx]; rfl, .inr (nm_c h (c := c) (by rw [hx]; exact List.mem_cons_self ..)).1⟩
  | succ k => exact ⟨42, List.replicate k 42 ++ tl x, rfl, .inl rfl⟩
theorem null_tl : tl "null" = [110, 117, 108, 108] := by decide +kernel
theorem pl_null {x : Str} (h : nmO x) (k : Nat) : plX x k ≠ tl "null" := fun z => by
  cases k with
  | zero => exact (nm_low h).2.1 (ext_tl z)
  | succ k =>
    rw [null_tl] at z
    have : (42 : Nat) = 110 := (List.cons.inj z).1
    omega
theorem sr_rd {s : Src} (h : sO s) : srL nvP (srX s) = some (sD s) := by
  cases s with
  | num n =>
    obtain ⟨h1, h2⟩ := h
    have e : srX (.num n) = numL n.toNat := rfl
    rw [e]
    unfold srL
    rw [if_neg, if_pos (num_nu _), num_val (by omega)]
    · show some (PyData.tuple [.str "number", .int (n.toNat : Int)]) = some (PyData.tuple [.str "number", .int n])
      rw [Int.toNat_of_nonneg h1]
    · intro z
      have : (110 : Nat) ∈ numL n.toNat := by rw [z, null_tl]; simp
      have := numL_digits _ _ this
      omega
  | null =>
    have e : srX .null = tl "null" := rfl
    rw [e]
    unfold srL
    rw [if_pos rfl]
    rfl
  | val x k =>
    obtain ⟨c, r, e, hc⟩ := pl_head h.1 k
    have e0 : srX (.val x k) = plX x k := rfl
    rw [e0]
    unfold srL
    rw [if_neg (pl_null h.1 k), if_neg (by rw [show plX x k = [] ++ plX x k from rfl, pl_nu h.1 k]; simp), if_neg (by rw [e]; show some c ≠ some 38; intro z; injection z with z; omega), pl_rd h.1 k]
    rfl
  | adr x k =>
    have e0 : srX (.adr x k) = 38 :: plX x k := rfl
    rw [e0]
    unfold srL
    rw [if_neg (by rw [null_tl]; intro z; exact absurd (List.cons.inj z).1 (by decide)), if_neg (by rw [show 38 :: plX x k = [38] ++ plX x k from rfl, pl_nu h.1 k]; simp), if_pos (show (38 :: plX x k).head? = some 38 from rfl), show (38 :: plX x k).tail = plX x k from rfl, pl_rd h.1 k]
    rfl
theorem pl_c {x : Str} (h : nmO x) {k c : Nat} (m : c ∈ plX x k) : c = 42 ∨ (97 ≤ c ∧ c ≤ 122) := by
  rcases List.mem_append.mp m with m | m
  · exact .inl (List.eq_of_mem_replicate m)
  · exact .inr (nm_c h m)
theorem sr_c {s : Src} (h : sO s) {c : Nat} (m : c ∈ srX s) : c = 42 ∨ c = 38 ∨ (97 ≤ c ∧ c ≤ 122) ∨ (48 ≤ c ∧ c ≤ 57) := by
  cases s with
  | num n => exact .inr (.inr (.inr (numL_digits _ _ m)))
  | null =>
    have m' : c ∈ tl "null" := m
    rw [null_tl] at m'
    simp at m'
    omega
  | val x k => rcases pl_c h.1 m with m | m <;> omega
  | adr x k =>
    rcases List.mem_cons.mp m with m | m
    · exact .inr (.inl m)
    · rcases pl_c h.1 m with m | m <;> omega
theorem sr_ne {s : Src} (h : sO s) : srX s ≠ [] := by
  cases s with
  | num n => exact numL_ne _
  | null => rw [show srX .null = tl "null" from rfl, null_tl]; simp
  | val x k =>
    obtain ⟨c, r, e, _⟩ := pl_head h.1 k
    show plX x k ≠ []
    rw [e]
    simp
  | adr x k => exact List.cons_ne_nil _ _
theorem kd_c {sk : Bool} {T : List R} (h : tyO T) {c : Nat} (m : c ∈ kdX sk T) : c = 32 ∨ c = 45 ∨ c = 114 ∨ c = 119 ∨ (48 ≤ c ∧ c ≤ 57) := kd_sign (kd_rd h) m
theorem dc_c {sk : Bool} {q : Str × List R} (h : nmO q.1) (t : tyO q.2) {c : Nat} (m : c ∈ dcX sk q) : c = 32 ∨ c = 45 ∨ c = 58 ∨ (97 ≤ c ∧ c ≤ 122) ∨ (48 ≤ c ∧ c ≤ 57) := by
  rcases List.mem_append.mp m with m | m
  · have := nm_c h m
    omega
  · rcases List.mem_append.mp m with m | m
    · rw [sCol] at m
      simp at m
      omega
    · have := kd_c t m
      omega
theorem dc_ne {sk : Bool} {q : Str × List R} (h : nmO q.1) : dcX sk q ≠ [] := fun z => nm_ne h (List.append_eq_nil_iff.mp z).1
theorem cl_rd {f : Str} (hf : nmO f) {ps : List Ln} (h : ∀ p ∈ ps, 44 ∉ p ∧ p ≠ []) : clL (tl f ++ ([40] ++ (joinL (tl ", ") ps ++ [41]))) = some (f, ps) := by
  have e1 : par [40] [] (tl f ++ ([40] ++ (joinL (tl ", ") ps ++ [41]))) = some (tl f, joinL (tl ", ") ps ++ [41]) := by
    have := par_part1 (s := 40) (S := []) (p := tl f) (rest := joinL (tl ", ") ps ++ [41]) (acc := []) (fun m => by have := nm_c hf m; omega)
    rw [List.nil_append] at this
    exact this
  unfold clL
  rw [e1]
  show (if (nmL (tl f) && decide ((joinL (tl ", ") ps ++ [41]).getLast? = some 41)) = true then some (mkS (tl f), ptsL (joinL (tl ", ") ps ++ [41]).dropLast) else none) = _
  rw [List.getLast?_concat, decide_eq_true (rfl : some 41 = some 41), (nm_low hf).1, if_pos (show (true && true) = true from rfl), List.dropLast_concat, mkS_tl]
  congr 2
  unfold ptsL
  cases ps with
  | nil => rfl
  | cons p ps =>
    have ne : joinL (tl ", ") (p :: ps) ≠ [] := by
      cases ps with
      | nil => exact (h p (List.mem_cons_self ..)).2
      | cons r ps => exact fun z => (h p (List.mem_cons_self ..)).2 (List.append_eq_nil_iff.mp z).1
    rw [if_neg ne, sCom]
    exact spl_join (List.cons_ne_nil _ _) fun r m => (h r m).1
theorem oAll_rd {α β γ : Type} {f : β → Option γ} {x : α → β} {y : α → γ} : ∀ {l : List α}, (∀ a ∈ l, f (x a) = some (y a)) → oAll f (l.map x) = some (l.map y)
  | [], _ => rfl
  | a :: l, h => by
    show (match f (x a), oAll f (l.map x) with
      | some b, some m => some (b :: m)
      | _, _ => none) = _
    rw [h a (List.mem_cons_self ..), oAll_rd fun b m => h b (List.mem_cons_of_mem _ m)]
    rfl
theorem hd_rd {sk : Bool} {f : TF} (o : FOk f) : hdL nvP (hdX sk f) = some (f.n, f.p.map (pdY sk)) := by
  unfold hdL hdX
  have l4 : (tl "def ").length = 4 := by decide +kernel
  rw [List.take_left' l4, if_pos rfl, List.drop_left' l4, cl_rd o.n]
  · show Option.map _ (oAll (dcL nvP) (f.p.map (dcX sk))) = _
    rw [oAll_rd (y := fun q => (q.1, kdY sk q.2)) fun q m => dc_rd (o.po q m).1 (o.po q m).2]
    show some (f.n, (f.p.map fun q => (q.1, kdY sk q.2)).map dcD) = _
    rw [List.map_map]
    congr 2
    refine List.map_congr_left fun q _ => ?_
    cases sk <;> rfl
  · intro p m
    obtain ⟨q, mq, rfl⟩ := List.mem_map.mp m
    exact ⟨fun z => by have := dc_c (o.po q mq).1 (o.po q mq).2 z; omega, dc_ne (o.po q mq).1⟩
theorem st_rd {sk : Bool} {s : Stm} (o : stO s) : stL nvP (stX sk s) = some (stY sk s) := by
  have w1 : tl "let " = [108, 101, 116, 32] := by decide +kernel
  have w2 : tl "put " = [112, 117, 116, 32] := by decide +kernel
  have w3 : tl "call " = [99, 97, 108, 108, 32] := by decide +kernel
  unfold stL
  cases s with
  | lt x T s =>
    obtain ⟨o1, o2, o3⟩ := o
    have e : stX sk (.lt x T s) = tl "let " ++ (dcX sk (x, T) ++ (tl " = " ++ srX s)) := rfl
    rw [e, List.take_left' (by rw [w1]; rfl), if_pos rfl, List.drop_left' (by rw [w1]; rfl)]
    unfold ltL
    have hp : par (tl " = ") [] (dcX sk (x, T) ++ (tl " = " ++ srX s)) = some (dcX sk (x, T), srX s) := by
      rw [sEq]
      have := par_part (S := [32, 61, 32]) (p := dcX sk (x, T)) (rest := srX s) (acc := []) (by simp) (free3 (by decide) (fun m => by have := dc_c (q := (x, T)) o1 o2 m; omega) (by simp))
      rw [List.nil_append] at this
      exact this
    rw [hp]
    show ((dcL nvP (dcX sk (x, T))).bind _) = _
    rw [dc_rd (q := (x, T)) o1 o2]
    show (srL nvP (srX s)).map _ = _
    rw [sr_rd o3]
    cases sk <;> rfl
  | put x k s =>
    obtain ⟨o1, o2, o3⟩ := o
    have e : stX sk (.put x k s) = tl "put " ++ (plX x k ++ (tl " = " ++ srX s)) := rfl
    rw [e, List.take_left' (by rw [w2]; rfl), if_neg (by rw [w1, w2]; decide), if_pos rfl, List.drop_left' (by rw [w2]; rfl)]
    unfold ptL
    have hp : par (tl " = ") [] (plX x k ++ (tl " = " ++ srX s)) = some (plX x k, srX s) := by
      rw [sEq]
      have := par_part (S := [32, 61, 32]) (p := plX x k) (rest := srX s) (acc := []) (by simp) (free3 (by decide) (fun m => by have := pl_c o1 m; omega) (by simp))
      rw [List.nil_append] at this
      exact this
    rw [hp]
    show ((plL (plX x k)).bind _) = _
    rw [pl_rd o1 k]
    show (srL nvP (srX s)).map _ = _
    rw [sr_rd o3]
    cases sk <;> rfl
  | call f us =>
    obtain ⟨o1, o2, o3⟩ := o
    have e : stX sk (.call f us) = tl "call " ++ (tl f ++ ([40] ++ (joinL (tl ", ") (us.map srX) ++ [41]))) := rfl
    rw [e]
    have t4 : (tl "call " ++ (tl f ++ ([40] ++ (joinL (tl ", ") (us.map srX) ++ [41])))).take 4 = [99, 97, 108, 108] := by rw [w3]; rfl
    rw [t4, if_neg (by rw [w1]; decide), if_neg (by rw [w2]; decide), List.take_left' (by rw [w3]; rfl), if_pos rfl, List.drop_left' (by rw [w3]; rfl)]
    unfold caL
    rw [cl_rd o1 fun p m => by
      obtain ⟨s, ms, rfl⟩ := List.mem_map.mp m
      exact ⟨fun z => by have := sr_c (o3 s ms) z; omega, sr_ne (o3 s ms)⟩]
    show Option.map _ (oAll (srL nvP) (us.map srX)) = _
    rw [oAll_rd (y := sD) fun s m => sr_rd (o3 s m)]
    cases sk <;> rfl
theorem st_c {sk : Bool} {s : Stm} (o : stO s) {c : Nat} (m : c ∈ stX sk s) : c = 32 ∨ (38 ≤ c ∧ c ≤ 122) := by
  have w1 : tl "let " = [108, 101, 116, 32] := by decide +kernel
  have w2 : tl "put " = [112, 117, 116, 32] := by decide +kernel
  have w3 : tl "call " = [99, 97, 108, 108, 32] := by decide +kernel
  cases s with
  | lt x T s =>
    have m : c ∈ tl "let " ++ (dcX sk (x, T) ++ (tl " = " ++ srX s)) := m
    rw [w1, sEq] at m
    simp only [List.mem_append] at m
    rcases m with m | m | m | m
    · simp at m; omega
    · have := dc_c (q := (x, T)) o.1 o.2.1 m; omega
    · simp at m; omega
    · have := sr_c o.2.2 m; omega
  | put x k s =>
    have m : c ∈ tl "put " ++ (plX x k ++ (tl " = " ++ srX s)) := m
    rw [w2, sEq] at m
    simp only [List.mem_append] at m
    rcases m with m | m | m | m
    · simp at m; omega
    · have := pl_c o.1 m; omega
    · simp at m; omega
    · have := sr_c o.2.2 m; omega
  | call f us =>
    have m : c ∈ tl "call " ++ (tl f ++ ([40] ++ (joinL (tl ", ") (us.map srX) ++ [41]))) := m
    rw [w3] at m
    simp only [List.mem_append] at m
    rcases m with m | m | m | m | m
    · simp at m; omega
    · have := nm_c o.1 m; omega
    · simp at m; omega
    · have key : ∀ (ps : List Ln), (∀ p ∈ ps, ∀ c ∈ p, 38 ≤ c ∧ c ≤ 122) → ∀ c ∈ joinL (tl ", ") ps, c = 32 ∨ (38 ≤ c ∧ c ≤ 122) := by
        intro ps
        induction ps with
        | nil => intro _ c m; cases m
        | cons p ps ih =>
          intro h c m
          cases ps with
          | nil => exact .inr (h p (List.mem_cons_self ..) c m)
          | cons r ps =>
            have m : c ∈ p ++ (tl ", " ++ joinL (tl ", ") (r :: ps)) := m
            rcases List.mem_append.mp m with m | m
            · exact .inr (h p (List.mem_cons_self ..) c m)
            · rcases List.mem_append.mp m with m | m
              · rw [sCom] at m
                simp at m
                omega
              · exact ih (fun p' m' => h p' (List.mem_cons_of_mem _ m')) c m
      refine key _ (fun p m' c' mc => ?_) c m
      obtain ⟨s, ms, rfl⟩ := List.mem_map.mp m'
      have := sr_c (o.2.2 s ms) mc
      omega
    · simp at m; omega
theorem hd_c {sk : Bool} {f : TF} (o : FOk f) {c : Nat} (m : c ∈ hdX sk f) : c = 32 ∨ (38 ≤ c ∧ c ≤ 122) := by
  have w1 : tl "def " = [100, 101, 102, 32] := by decide +kernel
  unfold hdX at m
  rw [w1] at m
  simp only [List.mem_append] at m
  rcases m with m | m | m | m | m
  · simp at m; omega
  · have := nm_c o.n m; omega
  · simp at m; omega
  · have key : ∀ (ps : List Ln), (∀ p ∈ ps, ∀ c ∈ p, c = 32 ∨ (38 ≤ c ∧ c ≤ 122)) → ∀ c ∈ joinL (tl ", ") ps, c = 32 ∨ (38 ≤ c ∧ c ≤ 122) := by
      intro ps
      induction ps with
      | nil => intro _ c m; cases m
      | cons p ps ih =>
        intro h c m
        cases ps with
        | nil => exact h p (List.mem_cons_self ..) c m
        | cons r ps =>
          have m : c ∈ p ++ (tl ", " ++ joinL (tl ", ") (r :: ps)) := m
          rcases List.mem_append.mp m with m | m
          · exact h p (List.mem_cons_self ..) c m
          · rcases List.mem_append.mp m with m | m
            · rw [sCom] at m
              simp at m
              omega
            · exact ih (fun p' m' => h p' (List.mem_cons_of_mem _ m')) c m
    refine key _ (fun p m' c' mc => ?_) c m
    obtain ⟨q, mq, rfl⟩ := List.mem_map.mp m'
    have := dc_c (o.po q mq).1 (o.po q mq).2 mc
    omega
  · simp at m; omega
theorem ln_nl {sk : Bool} {fs : List TF} {ss : List Stm} (ok : POk fs ss) : ∀ l ∈ lnX sk fs ss, 10 ∉ l := fun l m z => by
  rcases List.mem_append.mp m with m | m
  · obtain ⟨f, mf, m⟩ := List.mem_flatMap.mp m
    rcases List.mem_append.mp m with m | m
    · rcases List.mem_cons.mp m with rfl | m
      · have := hd_c (ok.fo f mf) z; omega
      · obtain ⟨s, ms, rfl⟩ := List.mem_map.mp m
        rcases List.mem_append.mp z with z | z
        · rw [show tl "  " = [32, 32] from by decide +kernel] at z
          simp at z
        · have := st_c ((ok.fo f mf).bo s ms) z; omega
    · rw [List.mem_singleton.mp m, show tl "end" = [101, 110, 100] from by decide +kernel] at z
      simp at z
  · obtain ⟨s, ms, rfl⟩ := List.mem_map.mp m
    have := st_c (ok.so s ms) z
    omega
theorem spl_lines : ∀ (ls : List Ln), (∀ l ∈ ls, 10 ∉ l) → spl [10] 0 [] (ls.flatMap (· ++ [10])) = ls ++ [[]]
  | [], _ => by rw [List.flatMap_nil, spl_nil]; rfl
  | l :: ls, h => by
    rw [List.flatMap_cons, List.append_assoc]
    have := spl_part1 (s := 10) (S := []) (p := l) (rest := ls.flatMap (· ++ [10])) (acc := []) (h l (List.mem_cons_self ..))
    rw [List.nil_append] at this
    rw [this, spl_lines ls fun x m => h x (List.mem_cons_of_mem _ m)]
    rfl
def Runs (nv : NV) (s : Rs) (ls : List Ln) (s' : Rs) : Prop := ∀ k, runL nv s k ls = .inr s'
theorem Runs.app {nv : NV} : ∀ {a b : List Ln} {s s1 s2 : Rs}, Runs nv s a s1 → Runs nv s1 b s2 → Runs nv s (a ++ b) s2
  | [], b, s, s1, s2, h1, h2 => fun k => by
    have e : s = s1 := Sum.inr.inj (h1 k)
    rw [e]
    exact h2 k
  | l :: a, b, s, s1, s2, h1, h2 => fun k => by
    show (match stepL nv s l with | some s' => runL nv s' (k + 1) (a ++ b) | none => .inl k) = _
    cases hs : stepL nv s l with
    | none =>
      have := h1 k
      unfold runL at this
      rw [hs] at this
      cases this
    | some s' =>
      refine Runs.app (a := a) (s := s') (s1 := s1) (fun j => ?_) h2 (k + 1)
      have hk := fun k => h1 k
      cases j with
      | zero =>
        have hind : ∀ (ls : List Ln) (s : Rs) (k k' : Nat) (r : Rs), runL nv s k ls = .inr r → runL nv s k' ls = .inr r := by
          intro ls
          induction ls with
          | nil => intro s k k' r h; exact h
          | cons l ls ih =>
            intro s k k' r h
            unfold runL at h ⊢
            cases hs : stepL nv s l with
            | none => rw [hs] at h; cases h
            | some s' => rw [hs] at h; exact ih s' _ _ r h
        have := h1 0
        unfold runL at this
        rw [hs] at this
        exact hind _ _ _ _ _ this
      | succ j =>
        have := h1 j
        unfold runL at this
        rw [hs] at this
        exact this
theorem Runs.one {nv : NV} {s s' : Rs} {l : Ln} (h : stepL nv s l = some s') : Runs nv s [l] s' := fun k => by
  unfold runL
  rw [h]
  rfl
theorem step_in (nv : NV) (F : List FD) (S : List PyData) (q : Str × List PyData) (B : List PyData) (l : Ln) : stepL nv ⟨F, S, some q, B⟩ l = if l = tl "end" then some ⟨F ++ [⟨.str q.1, q.2, B⟩], S, none, []⟩ else if l.take 2 = tl "  " then (stL nv (l.drop 2)).map fun d => ⟨F, S, some q, B ++ [d]⟩ else none := rfl
theorem runs_body {sk : Bool} {q : Str × List PyData} : ∀ {b : List Stm} {F : List FD} {B : List PyData}, (∀ s ∈ b, stO s) → Runs nvP ⟨F, [], some q, B⟩ (b.map fun s => tl "  " ++ stX sk s) ⟨F, [], some q, B ++ b.map (stY sk)⟩
  | [], F, B, _ => fun k => by simp [runL]
  | s :: b, F, B, h => by
    have w2 : tl "  " = [32, 32] := by decide +kernel
    have w3 : tl "end" = [101, 110, 100] := by decide +kernel
    have h1 : stepL nvP ⟨F, [], some q, B⟩ (tl "  " ++ stX sk s) = some ⟨F, [], some q, B ++ [stY sk s]⟩ := by
      rw [step_in, if_neg (by rw [w2, w3]; intro z; exact absurd (List.cons.inj z).1 (by decide)), List.take_left' (by rw [w2]; rfl), if_pos rfl, List.drop_left' (by rw [w2]; rfl), st_rd (h s (List.mem_cons_self ..))]
      rfl
    have h2 := runs_body (sk := sk) (q := q) (b := b) (F := F) (B := B ++ [stY sk s]) fun x m => h x (List.mem_cons_of_mem _ m)
    rw [List.append_assoc] at h2
    exact (Runs.one h1).app h2
theorem runs_fns {sk : Bool} : ∀ {fs : List TF} {F : List FD}, (∀ f ∈ fs, FOk f) → Runs nvP ⟨F, [], none, []⟩ (fs.flatMap (fnX sk)) ⟨F ++ fs.map (fdY sk), [], none, []⟩
  | [], F, _ => fun k => by simp [runL]
  | f :: fs, F, h => by
    have o := h f (List.mem_cons_self ..)
    have h1 : stepL nvP ⟨F, [], none, []⟩ (hdX sk f) = some ⟨F, [], some (f.n, f.p.map (pdY sk)), []⟩ := by
      show (match (if ([] : List PyData) = [] then hdL nvP (hdX sk f) else none) with
        | some q => some (⟨F, [], some q, []⟩ : Rs)
        | none => (stL nvP (hdX sk f)).map fun d => (⟨F, [] ++ [d], none, []⟩ : Rs)) = _
      rw [if_pos rfl, hd_rd o]
    have h2 := runs_body (sk := sk) (q := (f.n, f.p.map (pdY sk))) (F := F) (B := []) o.bo
    rw [List.nil_append] at h2
    have h3 : stepL nvP ⟨F, [], some (f.n, f.p.map (pdY sk)), f.b.map (stY sk)⟩ (tl "end") = some ⟨F ++ [fdY sk f], [], none, []⟩ := by
      rw [step_in, if_pos rfl]
      rfl
    have h4 := runs_fns (sk := sk) (fs := fs) (F := F ++ [fdY sk f]) fun x m => h x (List.mem_cons_of_mem _ m)
    rw [List.append_assoc] at h4
    rw [List.flatMap_cons]
    refine Runs.app ?_ h4
    exact ((Runs.one h1).app h2).app (Runs.one h3)
theorem hd_not {sk : Bool} (s : Stm) : hdL nvP (stX sk s) = none := by
  have w0 : tl "def " = [100, 101, 102, 32] := by decide +kernel
  have w1 : tl "let " = [108, 101, 116, 32] := by decide +kernel
  have w2 : tl "put " = [112, 117, 116, 32] := by decide +kernel
  have w3 : tl "call " = [99, 97, 108, 108, 32] := by decide +kernel
  unfold hdL
  rw [if_neg]
  intro z
  have z1 := congrArg (fun l : Ln => l.head?) z
  rw [w0] at z1
  cases s with
  | lt x T s =>
    have e : stX sk (.lt x T s) = tl "let " ++ (dcX sk (x, T) ++ (tl " = " ++ srX s)) := rfl
    rw [e, w1] at z1
    exact absurd (Option.some.inj z1) (by decide)
  | put x k s =>
    have e : stX sk (.put x k s) = tl "put " ++ (plX x k ++ (tl " = " ++ srX s)) := rfl
    rw [e, w2] at z1
    exact absurd (Option.some.inj z1) (by decide)
  | call f us =>
    have e : stX sk (.call f us) = tl "call " ++ (tl f ++ ([40] ++ (joinL (tl ", ") (us.map srX) ++ [41]))) := rfl
    rw [e, w3] at z1
    exact absurd (Option.some.inj z1) (by decide)
theorem runs_sts {sk : Bool} {F : List FD} : ∀ {b : List Stm} {B : List PyData}, (∀ s ∈ b, stO s) → Runs nvP ⟨F, B, none, []⟩ (b.map (stX sk)) ⟨F, B ++ b.map (stY sk), none, []⟩
  | [], B, _ => fun k => by simp [runL]
  | s :: b, B, h => by
    have h1 : stepL nvP ⟨F, B, none, []⟩ (stX sk s) = some ⟨F, B ++ [stY sk s], none, []⟩ := by
      show (match (if B = [] then hdL nvP (stX sk s) else none) with
        | some q => some (⟨F, B, some q, []⟩ : Rs)
        | none => (stL nvP (stX sk s)).map fun d => (⟨F, B ++ [d], none, []⟩ : Rs)) = _
      rw [hd_not, ite_self, st_rd (h s (List.mem_cons_self ..))]
      rfl
    have h2 := runs_sts (sk := sk) (F := F) (b := b) (B := B ++ [stY sk s]) fun x m => h x (List.mem_cons_of_mem _ m)
    rw [List.append_assoc] at h2
    exact (Runs.one h1).app h2
/-- what is written is read again -/
theorem res_rd {sk : Bool} {fs : List TF} {ss : List Stm} (ok : POk fs ss) : resL nvP (txX sk fs ss) = pgY sk fs ss := by
  have e := spl_lines (lnX sk fs ss) (ln_nl ok)
  have h := (runs_fns (sk := sk) (F := []) ok.fo).app (runs_sts (sk := sk) (F := [] ++ fs.map (fdY sk)) (B := []) ok.so)
  rw [List.nil_append, List.nil_append] at h
  unfold resL txX
  have eg : (lnX sk fs ss ++ [[]]).getLastD [] = ([] : Ln) := by simp
  rw [e, eg, if_pos rfl, List.dropLast_concat, show runL nvP rs0 0 (lnX sk fs ss) = .inr ⟨fs.map (fdY sk), ss.map (stY sk), none, []⟩ from h 0]
  show (if ([] : Ln) ≠ [] ∨ (none : Option (Str × List PyData)).isSome = true then _ else if progD (fs.map (fdY sk)) (ss.map (stY sk)) = true then _ else _) = _
  rw [if_neg (by simp), if_pos (prog_Y ok)]
  rfl
end Ver
set_option Elab.async false
set_option linter.all false
set_option maxRecDepth 100000
set_option maxHeartbeats 4000000
namespace Ver
open PySem PySem.Spec PyProof.Rows L2 Evl TL
section
variable {X : Cx} {e : Expr} {es : List Expr} {t : TA} {x : Str} {C f : Addr} {fd : FuncData} {k : Nat} {ps : List Str} {sp : Sp} {p1 p2 pos : Pos} {mc : Value}
theorem pe_cinit {pl : Sem Bool} (hg : Gl X x) (hm : X.mg x = some (.ref C)) (r : ClX.CRead X.K C mc) (c : ClX.CVal X.K C mc "__init__" (.ref f) (.ref f))
    (F : FnOk X.prog X.w X.K X.mg X.base CX0 k f fd ps sp) (hr : Room k X.A) (hk : PySem.W.keepIn X.K (.ref f) = true) (hb : Binds X.K fd ps []) (ha : PA X (e :: es) t)
    (hdb : (x == ("__debug__" : Str)) = false := by decide)
    (hc : eval (.Call (.Attribute (.Name x p1) "__init__" p2) (e :: es) [] pos) X.env = (do
      let ov ← eval (.Name x p1) X.env
      standAt p2.atName
      let (f, first) ← holding [ov] (getMethod ov "__init__" pl)
      callWith pos f first (backTo pos (starEach (e :: es) X.env)) (backToKw pos (keywordEach [] X.env))) := by rfl)
    (he : starEach (e :: es) X.env = (false, eval e X.env) :: starEach es X.env := by rfl) (hpl : (backTo pos (starEach es X.env)).any (·.1) = false := by rfl) :
    PE X (.Call (.Attribute (.Name x p1) "__init__" p2) (e :: es) [] pos) (tCall sp [] E0 t) := by
  refine ⟨fun pins s σ H Q I h => ?_⟩
  refine PySem.W.methodCall_KW (ld_glob I hg hm ?_ hdb) hc
  refine PySem.W.method_cls I.kIn r.ga (ClX.getcval_ok I r c fun s' J => ?_)
  show wpAny _ _ (callWith pos (Value.ref f) [] (backTo pos (starEach (e :: es) X.env)) []) _ _ _
  refine PySem.W.callWith_K (h₀ := X.base) J.ok.mod.kin hk (thn (ha.run pos pins s' σ H _ J h) fun us s1 ⟨vs, H1, I1, r, q⟩ => ⟨I1.kIn, ?_⟩) he hpl
  exact run_fn F hr hb .nil pass0 I1 r q
end
def rJoin (K : PySem.W.Frag) : V → List V → Hp → VK → Prop := fun x xs H Q => ∃ a p, ∃ ys : List Str, x = .str a ∧ xs = [.ref p] ∧ (SqL K H p (ys.map V.str) ∨ SqT K H p (ys.map V.str)) ∧ (ys.map (·.length)).sum + ys.length * a.length ≤ 16777216 ∧ Q (.str (Txt.join a ys)) H
theorem pe_joinK (K : PySem.W.Frag) {X : Cx} {o e : Expr} {to te : TE} {apos pos : Pos} (ho : PE X o to) (he : PE X e te) (h : X.K = K := by rfl) (hs : starEach [e] X.env = [(false, eval e X.env)] := by rfl) (hbase : attributeBase o "join" X.env (eval o X.env) = eval o X.env := by rfl) (hline : (apos.endLine == pos.line) = true := by rfl) :
    PE X (.Call (.Attribute o "join" apos) [e] [] pos) (tM1 (rJoin K) to te) := by
  subst h
  exact pe_join ho he hs hbase hline
theorem w_M1 {r : V → List V → Hp → VK → Prop} {to te : TE} {σ : L2.St} {H : Hp} {Q : VK} (h : to σ H fun x Ha => (∃ a, x = .str a) ∧ te σ Ha fun y Hb => r x [y] Hb Q) : tM1 r to te σ H Q := h
theorem w_BMS {K : PySem.W.Frag} {T : String} {r : L2.St → V → List V → Hp → VK → Prop} {to : TE} {t : TA} {σ : L2.St} {H : Hp} {Q : VK} (h : to σ H fun x H1 => tyV K T x H1 ∧ t σ H1 fun xs H2 => r σ x xs H2 Q) : tBMS K T r to t σ H Q := h
theorem w_fmt {te : TE} {σ : L2.St} {H : Hp} {Q : VK} (h : te σ H fun x H1 => (∃ y : Str, x = .str y ∧ y.length ≤ sizeLine ∧ Q (.str y) H1) ∨ ∃ i : Int, x = .int i ∧ i.natAbs.log2 < 1920 ∧ Q (.str (toString i)) H1) : tFmt te σ H Q := h
theorem w_js {t : TE} {ts : List TE} {acc : Str} {σ : L2.St} {H : Hp} {Q : Str → Hp → Prop} (h : t σ H fun x H1 => ∃ y : Str, x = .str y ∧ (acc ++ y).length ≤ sizeLine ∧ tJs ts (acc ++ y) σ H1 Q) : tJs (t :: ts) acc σ H Q := h
theorem w_js0 {acc : Str} {σ : L2.St} {H : Hp} {Q : Str → Hp → Prop} (h : Q acc H) : tJs [] acc σ H Q := h
theorem lt_line {n : Nat} (h : n ≤ 100000) : n ≤ sizeLine := by
  rw [sizeLine_eq]
  omega
def rSpl : V → List V → Hp → VK → Prop := fun x xs H Q => ∃ a b, x = .str a ∧ xs = [.str b] ∧ (b.length == 0) = false ∧ a.length + 2 ≤ sizeLine ∧ rNewStrs (Txt.split a b) H Q
def rPar : V → List V → Hp → VK → Prop := fun x xs H Q => ∃ a b, x = .str a ∧ xs = [.str b] ∧ (b.length == 0) = false ∧ a.length ≤ sizeLine ∧ ∀ p, H p = none → Q (.ref p) (upd H p (.tup [.str (Txt.partition a b).1, .str (Txt.partition a b).2.1, .str (Txt.partition a b).2.2]))
def rStW : V → List V → Hp → VK → Prop := fun x xs H Q => ∃ a b, x = .str a ∧ xs = [.str b] ∧ Q (.bl (Txt.startswith a b)) H
def rEnW : V → List V → Hp → VK → Prop := fun x xs H Q => ∃ a b, x = .str a ∧ xs = [.str b] ∧ Q (.bl (Txt.endswith a b)) H
def rLsC : V → List V → Hp → VK → Prop := fun x xs H Q => ∃ a b, x = .str a ∧ xs = [.str b] ∧ a.length ≤ sizeLine ∧ Q (.str (Txt.lstripChars a b)) H
def rIxF : L2.St → V → List V → Hp → VK → Prop := rIndexX fun _ _ _ _ => False
def rStr : List V → Hp → VK → Prop := fun xs H Q => ∃ i, xs = [.int i] ∧ i.natAbs.log2 < 1920 ∧ Q (.str (toString i)) H
def rIntS : List V → Hp → VK → Prop := fun xs H Q => ∃ a n, xs = [.str a] ∧ PySem.intText? a = some n ∧ a.length ≤ 640 ∧ Q (.int n) H
section
variable {X : Cx}
theorem mtSpl : MtR X "str.split" rSpl := mt_split
theorem mtPar : MtR X "str.partition" rPar := mt_partition
theorem mtStW : MtR X "str.startswith" rStW := mt_startswith
theorem mtEnW : MtR X "str.endswith" rEnW := mt_endswith
theorem mtLsC : MtR X "str.lstrip" rLsC := mt_lstripChars
theorem mtIxF (hc : X.calm = true) : MtS X "str.index" rIxF := mt_indexX hc takes0
theorem strK : CallR X (.type "str") rStr := call_str_int
theorem intSK : CallR X (.type "int") rIntS := call_int_str
end
def rMulS : R2 := fun x y H Q => ∃ a i, x = .str a ∧ y = .int i ∧ a.length ≤ 16 ∧ -(2 ^ 63 : Int) ≤ i ∧ i ≤ ((1048576 : Nat) : Int) ∧ Q (.str (Txt.mul a i)) H
theorem op_mulS {X : Cx} : OpR X (binaryOp .Mult) rMulS := by
  intro pins s σ H x y v u Q I rx ry h
  obtain ⟨a, i, rfl, rfl, h1, h2, h3, q⟩ := h
  obtain ⟨t, rfl⟩ := rx
  obtain ⟨t', rfl⟩ := ry
  exact PySem.W.KXi.mul rfl h1 h2 h3 fun t' k _ _ => ⟨.str (Txt.mul a i), H, I.tok _, ⟨_, rfl⟩, q⟩
section
variable {H : Hp} {Q : VK} {a b : Str}
theorem split_mk (hb : tl b ≠ []) (hk : b.cps.all (· < 256) = true) : Txt.split a b = (spl (tl b) 0 [] (tl a)).map mkS := by
  rw [← split_spl a b hb (kind_ok hk), List.map_map]
  have : (mkS ∘ tl) = id := funext mkS_tl
  rw [this, List.map_id]
theorem a_spl (hb : tl b ≠ []) (hk : b.cps.all (· < 256) = true) (ha : (tl a).length ≤ 50000) (q : ∀ p H1, H p = none → Ex H H1 → H1 p = some (.lst ((spl (tl b) 0 [] (tl a)).map fun l => .str (mkS l))) → Q (.ref p) H1) : rSpl (.str a) [.str b] H Q := by
  refine ⟨a, b, rfl, rfl, ?_, ?_, fun p n => ?_⟩
  · rw [beq_eq_false_iff_ne, len_tl]
    exact fun z => hb (List.length_eq_zero_iff.mp z)
  · rw [len_tl]
    exact lt_line (by omega)
  · have := q p _ n (Ex.new n) upd_same
    rw [split_mk hb hk, List.map_map]
    exact this
theorem a_par (hb : tl b ≠ []) (ha : (tl a).length ≤ 50000) (q : ∀ p H1, H p = none → Ex H H1 → H1 p = some (.tup [.str (Txt.partition a b).1, .str (Txt.partition a b).2.1, .str (Txt.partition a b).2.2]) → Q (.ref p) H1) : rPar (.str a) [.str b] H Q := by
  refine ⟨a, b, rfl, rfl, ?_, ?_, fun p n => q p _ n (Ex.new n) upd_same⟩
  · rw [beq_eq_false_iff_ne, len_tl]
    exact fun z => hb (List.length_eq_zero_iff.mp z)
  · rw [len_tl]
    exact lt_line (by omega)
theorem part_none (hb : tl b ≠ []) (h : par (tl b) [] (tl a) = none) : Txt.partition a b = (a, Str.empty, Str.empty) := by rw [partition_par a b hb, h]
theorem part_some (hb : tl b ≠ []) {x y : Ln} (h : par (tl b) [] (tl a) = some (x, y)) : Txt.partition a b = (mkS x, b, mkS y) := by
  rw [partition_par a b hb, h]
  rfl
theorem stw_eq : Txt.startswith a b = decide ((tl a).take (tl b).length = tl b) := by
  unfold Txt.startswith
  rw [PySem.StrLaws.subAt_eq, len_tl, len_tl, List.drop_zero]
  rw [Bool.eq_iff_iff, Bool.and_eq_true, decide_eq_true_iff, decide_eq_true_iff, beq_iff_eq]
  constructor
  · exact fun h => h.2
  · intro h
    have := congrArg List.length h
    rw [List.length_take] at this
    exact ⟨by omega, h⟩
theorem enw_eq {c : Nat} (hb : tl b = [c]) : Txt.endswith a b = decide ((tl a).getLast? = some c) := by
  unfold Txt.endswith
  rw [PySem.StrLaws.subAt_eq, len_tl, len_tl, hb]
  rw [Bool.eq_iff_iff, Bool.and_eq_true, decide_eq_true_iff, decide_eq_true_iff, beq_iff_eq]
  rw [show b.cps.toList = [c] from hb]
  show (0 + 1 ≤ (tl a).length ∧ ((tl a).drop ((tl a).length - 1)).take 1 = [c]) ↔ _
  rcases List.eq_nil_or_concat (tl a) with h | ⟨l, d, h⟩
  · rw [h]; simp
  · rw [h]
    simp
theorem a_stw (q : Q (.bl (decide ((tl a).take (tl b).length = tl b))) H) : rStW (.str a) [.str b] H Q := ⟨a, b, rfl, rfl, by rw [stw_eq]; exact q⟩
theorem a_enw {c : Nat} (hb : tl b = [c]) (q : Q (.bl (decide ((tl a).getLast? = some c))) H) : rEnW (.str a) [.str b] H Q := ⟨a, b, rfl, rfl, by rw [enw_eq hb]; exact q⟩
theorem drop_tw {p : Nat → Bool} : ∀ l : Ln, l.drop (l.takeWhile p).length = l.dropWhile p
  | [] => rfl
  | c :: r => by
    rw [List.takeWhile_cons, List.dropWhile_cons]
    by_cases h : p c = true
    · rw [if_pos h, if_pos h, List.length_cons, List.drop_succ_cons]
      exact drop_tw r
    · rw [if_neg h, if_neg h]
      rfl
theorem ls_eq : Txt.lstripChars a "*" = mkS ((tl a).dropWhile (· == 42)) := by
  unfold Txt.lstripChars
  rw [PyProof.Rows.stripBy_eq]
  have e : (fun c => ("*" : Str).cps.contains c) = fun c : Nat => c == 42 := funext fun c => by
    have : ("*" : Str).cps = #[42] := by decide +kernel
    rw [this]
    cases h : (c == 42) <;> simp_all [Array.contains]
  have e' : ("*" : Str).cps.contains = fun c : Nat => c == 42 := e
  rw [e']
  refine ext_tl ?_
  unfold PySem.stripLo PySem.stripHi
  simp only [if_true, Bool.false_eq_true, if_false]
  rw [tl_strSub_end, tl_mkS]
  exact drop_tw _
theorem a_lst (ha : (tl a).length ≤ 50000) (q : Q (.str (mkS ((tl a).dropWhile (· == 42)))) H) : rLsC (.str a) [.str "*"] H Q := ⟨a, "*", rfl, rfl, by rw [len_tl]; exact lt_line (by omega), by rw [ls_eq]; exact q⟩
theorem occ_par (hb : tl b ≠ []) : (par (tl b) [] (tl a) = none ∧ Builtin.Str.occurrences a b 0 a.length 1 = []) ∨ ∃ x y r, par (tl b) [] (tl a) = some (x, y) ∧ Builtin.Str.occurrences a b 0 a.length 1 = x.length :: r := by
  have hx := len_tl a
  have hl := len_tl b
  rcases PySem.StrLaws.occ_head a b 1 (Nat.le_refl _) with ⟨e, hn⟩ | ⟨i, r, e, hi, hn⟩
  · have run := par_run (tl b) (tl a) (tl a).length 0 [] (by omega) (fun k _ _ => no_at hb (hn k))
    rw [List.drop_zero, Nat.zero_add, List.drop_length] at run
    exact .inl ⟨run, e⟩
  · have hbd : i + b.length ≤ a.length := hi.1
    have run := par_run (tl b) (tl a) i 0 [] (by omega) (fun k _ k2 => no_at hb (hn k (by omega)))
    rw [List.drop_zero, Nat.zero_add, List.nil_append, par_at hb ((at_iff hb i).mp hi)] at run
    refine .inr ⟨_, _, r, run, ?_⟩
    rw [e, List.length_take, show min i (tl a).length = i from by omega]
theorem has_par (hb : tl b ≠ []) : (!(Builtin.Str.occurrences a b 0 a.length 1).isEmpty) = (par (tl b) [] (tl a)).isSome := by
  rcases occ_par (a := a) hb with ⟨h1, h2⟩ | ⟨x, y, r, h1, h2⟩
  · rw [h1, h2]; rfl
  · rw [h1, h2]; rfl
theorem a_hasT {neg : Bool} (hb : tl b ≠ []) (q : Q (.bl (if neg then !(par (tl b) [] (tl a)).isSome else (par (tl b) [] (tl a)).isSome)) H) : qInS neg (.str b) (.str a) H Q := by
  cases neg with
  | false => exact a_inS (has_par hb) q
  | true => exact a_ninS (has_par hb) q
theorem a_idx {x y : Ln} (hb : tl b ≠ []) (h : par (tl b) [] (tl a) = some (x, y)) (q : Q (.int (x.length : Nat)) H) {σ : L2.St} : rIxF σ (.str a) [.str b] H Q := by
  rcases occ_par (a := a) hb with ⟨h1, _⟩ | ⟨x', y', r, h1, h2⟩
  · rw [h] at h1; cases h1
  · rw [h] at h1
    cases h1
    refine ⟨a, b, rfl, rfl, fun k hk => ?_, fun hk => ?_⟩
    · unfold Txt.index0 at hk
      rw [h2] at hk
      cases hk
      exact q
    · unfold Txt.index0 at hk
      rw [h2] at hk
      cases hk
theorem tl_cut (z : Str) (lo hi : Option Int) : cutS z lo hi = mkS (((tl z).drop (HT.sIx (tl z).length 0 lo)).take (HT.sIx (tl z).length (tl z).length hi - HT.sIx (tl z).length 0 lo)) := by
  unfold cutS
  rw [len_tl]
  rfl
theorem cut_from (z : Str) (n : Nat) : cutS z (some (n : Int)) none = mkS ((tl z).drop n) := by
  rw [tl_cut, HT.sIx_nat, HT.sIx_none]
  congr 1
  by_cases h : n ≤ (tl z).length
  · rw [Nat.min_eq_left h, List.take_of_length_le (by rw [List.length_drop]; omega)]
  · rw [Nat.min_eq_right (by omega), List.drop_of_length_le (l := tl z) (i := n) (by omega), List.drop_length, List.take_nil]
theorem cut_to (z : Str) (n : Nat) : cutS z none (some (n : Int)) = mkS ((tl z).take n) := by
  rw [tl_cut, HT.sIx_nat, HT.sIx_none, List.drop_zero, Nat.sub_zero]
  congr 1
  by_cases h : n ≤ (tl z).length
  · rw [Nat.min_eq_left h]
  · rw [Nat.min_eq_right (by omega), List.take_length, List.take_of_length_le (by omega)]
theorem cut_mid (z : Str) (n m : Nat) : cutS z (some (n : Int)) (some (m : Int)) = mkS (((tl z).take m).drop n) := by
  rw [tl_cut, HT.sIx_nat, HT.sIx_nat]
  congr 1
  rw [List.drop_take]
  by_cases h : n ≤ (tl z).length
  · rw [Nat.min_eq_left h]
    by_cases h2 : m ≤ (tl z).length
    · rw [Nat.min_eq_left h2]
    · rw [Nat.min_eq_right (by omega), List.take_of_length_le (by rw [List.length_drop]; omega), List.take_of_length_le (by rw [List.length_drop]; omega)]
  · rw [Nat.min_eq_right (a := n) (by omega), List.drop_length, List.drop_of_length_le (l := tl z) (i := n) (by omega), List.take_nil, List.take_nil]
theorem sIx_m1 (n d : Nat) : HT.sIx n d (some (-1)) = n - 1 := by
  show (if (-1 : Int) < 0 then ((-1 : Int) + (n : Int)).toNat else min (-1 : Int).toNat n) = _
  rw [if_pos (by decide)]
  omega
theorem cut_but (z : Str) (n : Nat) : cutS z (some (n : Int)) (some (-1)) = mkS ((tl z).dropLast.drop n) := by
  rw [tl_cut, HT.sIx_nat, sIx_m1, List.dropLast_eq_take]
  congr 1
  rw [List.drop_take]
  by_cases h : n ≤ (tl z).length
  · rw [Nat.min_eq_left h]
  · rw [Nat.min_eq_right (by omega), List.drop_length, List.drop_of_length_le (l := tl z) (i := n) (by omega), List.take_nil, List.take_nil]
theorem cut_but0 (z : Str) : cutS z none (some (-1)) = mkS (tl z).dropLast := by
  rw [tl_cut, HT.sIx_none, sIx_m1, List.drop_zero, Nat.sub_zero, List.dropLast_eq_take]
theorem cut_last (z : Str) : cutS z (some (-1)) none = mkS ((tl z).drop ((tl z).length - 1)) := by
  rw [tl_cut, HT.sIx_none, sIx_m1, List.take_of_length_le (by rw [List.length_drop]; omega)]
theorem last_one (l : Ln) (c : Nat) : l.drop (l.length - 1) = [c] ↔ l.getLast? = some c := by
  rcases List.eq_nil_or_concat l with h | ⟨r, d, h⟩
  · rw [h]; simp
  · rw [h]
    simp
theorem a_cutS {z : Str} {lo hi : Option Int} {r : Ln} (hz : (tl z).length ≤ 50000) (e : cutS z lo hi = mkS r) (q : Q (.str (mkS r)) H) : rSlS (.str z) lo hi H Q := ⟨z, rfl, by rw [len_tl]; exact lt_line (by omega), by rw [e]; exact q⟩
theorem a_mulS {n : Nat} (h : n ≤ 1000000) (q : Q (.str (mkS (List.replicate n 42))) H) : rMulS (.str "*") (.int (n : Nat)) H Q := by
  refine ⟨"*", n, rfl, rfl, by decide +kernel, by omega, by omega, ?_⟩
  have : Txt.mul "*" (n : Int) = mkS (List.replicate n 42) := by
    refine ext_tl ?_
    have e : ("*" : Str) = ⟨#[42]⟩ := by decide +kernel
    rw [e]
    exact PyProof.Rows.mul_one_list 42 n
  rw [this]
  exact q
theorem str_num (n : Nat) : (toString ((n : Nat) : Int) : Str) = mkS (numL n) := ext_tl (tl_num n)
theorem a_strN {n : Nat} (h : n ≤ 1000000) (q : Q (.str (mkS (numL n))) H) : rStr [.int (n : Nat)] H Q := by
  refine ⟨n, rfl, ?_, by rw [str_num]; exact q⟩
  show Nat.log2 n < 1920
  have : Nat.log2 n ≤ n := Nat.log2_le_self n
  by_cases h0 : n = 0
  · subst h0; decide
  · have := (Nat.log2_lt h0 (k := 1920)).mpr (Nat.lt_of_le_of_lt h (by decide))
    exact this
theorem a_intS {l : Ln} (hn : nuL l = true) (hl : l.length ≤ 640) (q : Q (.int (NumText.digitsVal l : Nat)) H) : rIntS [.str (mkS l)] H Q := by
  have hd := nu_dig hn
  have ne : l ≠ [] := fun z => by rw [z] at hn; cases hn
  refine ⟨mkS l, _, rfl, intText_digits (x := mkS l) hd ne (by rw [mkS_len]; omega), by rw [mkS_len]; exact hl, q⟩
theorem a_fmtS {N : Str → Prop} {M : Int → Prop} (hz : (tl a).length ≤ 50000) (q : N a) : (∃ y : Str, V.str a = .str y ∧ y.length ≤ sizeLine ∧ N y) ∨ ∃ i : Int, V.str a = .int i ∧ i.natAbs.log2 < 1920 ∧ M i := .inl ⟨a, rfl, by rw [len_tl]; exact lt_line (by omega), q⟩
theorem a_fmtN {N : Str → Prop} {M : Int → Prop} {n : Nat} (h : n ≤ 1000000) (q : M n) : (∃ y : Str, V.int (n : Nat) = .str y ∧ y.length ≤ sizeLine ∧ N y) ∨ ∃ i : Int, V.int (n : Nat) = .int i ∧ i.natAbs.log2 < 1920 ∧ M i := by
  refine .inr ⟨n, rfl, ?_, q⟩
  by_cases h0 : n = 0
  · subst h0; decide
  · have := (Nat.log2_lt h0 (k := 1920)).mpr (Nat.lt_of_le_of_lt h (by decide))
    exact this
theorem a_js {acc : Str} {N : Str → Prop} (hz : (tl acc).length + (tl a).length ≤ 50000) (q : N a) : ∃ y : Str, V.str a = .str y ∧ (acc ++ y).length ≤ sizeLine ∧ N y := ⟨a, rfl, by rw [len_tl, tl_append, List.length_append]; exact lt_line (by omega), q⟩
theorem a_catS (hz : (tl a).length + (tl b).length ≤ 50000) (q : Q (.str (a ++ b)) H) : ∃ i j, V.str a = .str i ∧ V.str b = .str j ∧ i.length + j.length ≤ sizeLine ∧ Q (.str (i ++ j)) H := ⟨a, b, rfl, rfl, by rw [len_tl, len_tl]; exact lt_line (by omega), q⟩
theorem a_isNs (k : Q (.bl false) H) : qIsN (.str a) .non H Q := ⟨rfl, by rw [decide_eq_false (fun z => by cases z)]; exact k⟩
theorem a_isNi {n : Int} (k : Q (.bl false) H) : qIsN (.int n) .non H Q := ⟨rfl, by rw [decide_eq_false (fun z => by cases z)]; exact k⟩
theorem a_notNs (k : Q (.bl true) H) : qNotN (.str a) .non H Q := ⟨rfl, by rw [decide_eq_false (fun z => by cases z)]; exact k⟩
theorem a_notNi {n : Int} (k : Q (.bl true) H) : qNotN (.int n) .non H Q := ⟨rfl, by rw [decide_eq_false (fun z => by cases z)]; exact k⟩
theorem a_isNv {v : V} (h : v ≠ .non) (k : Q (.bl false) H) : qIsN v .non H Q := ⟨rfl, by rw [decide_eq_false h]; exact k⟩
theorem join_mk (s : Str) (ls : List Ln) : Txt.join s (ls.map mkS) = mkS (joinL (tl s) ls) := by
  refine ext_tl ?_
  rw [join_eq, tl_join, List.map_map, tl_mkS]
  have : (tl ∘ mkS) = id := rfl
  rw [this, List.map_id]
theorem a_join {K : PySem.W.Frag} {H : Hp} {Q : VK} {s : Str} {p : Addr} {ls : List Ln} (h : SqL K H p ((ls.map mkS).map V.str) ∨ SqT K H p ((ls.map mkS).map V.str)) (hz : (ls.map List.length).sum + ls.length * (tl s).length ≤ 16777216) (q : Q (.str (mkS (joinL (tl s) ls))) H) : rJoin K (.str s) [.ref p] H Q := by
  refine ⟨s, p, ls.map mkS, rfl, rfl, h, ?_, by rw [join_mk]; exact q⟩
  rw [List.map_map, List.length_map, len_tl]
  have : ((fun x : Str => x.length) ∘ mkS) = List.length := funext fun l => mkS_len l
  rw [this]
  exact hz
theorem mkS_appL (a : Str) (b : Ln) : a ++ mkS b = mkS (tl a ++ b) := ext_tl (by rw [tl_append]; rfl)
theorem mkS_appR (a : Ln) (b : Str) : mkS a ++ b = mkS (a ++ tl b) := ext_tl (by rw [tl_append]; rfl)
end
end Ver
set_option Elab.async false
set_option linter.all false
set_option maxRecDepth 100000
set_option maxHeartbeats 4000000
namespace Ver
open PySem PySem.Spec PyProof.Rows L2 Evl TL
structure Fine (n : Nat) (d : PyData) : Prop where
  lay : PyData.canLay0 d = true
  dep : PyData.depth d ≤ n
  sm : smD d = true
theorem Fine.mono {n m : Nat} {d : PyData} (h : Fine n d) (l : n ≤ m) : Fine m d := ⟨h.lay, Nat.le_trans h.dep l, h.sm⟩
theorem fine_str {l : Ln} (h : ∀ c ∈ l, c < 0x110000) (hl : l.length ≤ 100000) : Fine 0 (.str (mkS l)) := by
  refine ⟨?_, ?_, ?_⟩
  · simp only [PyData.canLay0, PyData.strOk]
    rw [← Array.all_toList, List.all_eq_true]
    exact fun c hc => decide_eq_true (h c hc)
  · simp [PyData.depth]
  · show decide ((mkS l).length ≤ 100000) = true
    rw [mkS_len]
    exact decide_eq_true hl
theorem fine_int (i : Int) : Fine 0 (.int i) := ⟨rfl, by simp [PyData.depth], rfl⟩
theorem fine_all {ds : List PyData} {n : Nat} (h : ∀ d ∈ ds, Fine n d) : PyData.canLayAll0 ds = true ∧ PyData.depthAll ds ≤ n ∧ smAll ds = true := by
  induction ds with
  | nil => exact ⟨by simp [PyData.canLayAll0], by simp [PyData.depthAll], rfl⟩
  | cons d ds ih =>
    obtain ⟨i1, i2, i3⟩ := ih fun x m => h x (List.mem_cons_of_mem _ m)
    have h1 := h d (List.mem_cons_self ..)
    refine ⟨?_, ?_, ?_⟩
    · simp only [PyData.canLayAll0, Bool.and_eq_true]
      exact ⟨h1.lay, i1⟩
    · simp only [PyData.depthAll]
      have := h1.dep
      omega
    · show (smD d && smAll ds) = true
      rw [h1.sm, i3]
      rfl
theorem fine_tup {ds : List PyData} {n : Nat} (h : ∀ d ∈ ds, Fine n d) (l : ds.length ≤ 100000) : Fine (n + 1) (.tuple ds) := by
  obtain ⟨h1, h2, h3⟩ := fine_all h
  refine ⟨?_, ?_, ?_⟩
  · simp only [PyData.canLay0]; exact h1
  · simp only [PyData.depth]; omega
  · show (decide (ds.length ≤ 100000) && smAll ds) = true
    rw [decide_eq_true l, h3]
    rfl
theorem fine_lst {ds : List PyData} {n : Nat} (h : ∀ d ∈ ds, Fine n d) (l : ds.length ≤ 100000) : Fine (n + 1) (.list ds) := by
  obtain ⟨h1, h2, h3⟩ := fine_all h
  refine ⟨?_, ?_, ?_⟩
  · simp only [PyData.canLay0]; exact h1
  · simp only [PyData.depth]; omega
  · show (decide (ds.length ≤ 100000) && smAll ds) = true
    rw [decide_eq_true l, h3]
    rfl
theorem fine_shp {n : Nat} {d : PyData} (h : Fine n d) (l : n ≤ 40) : SeqAt.shaped d = true ∧ PyData.eqv d d = true := by
  refine ⟨?_, PySem.SeqAt.eqv_refl _ h.lay⟩
  unfold SeqAt.shaped
  rw [h.lay, Bool.true_and]
  exact decide_eq_true (by have := h.dep; omega)
theorem fine_nm {l : Ln} (h : nmL l = true) (hl : l.length ≤ 50000) : Fine 0 (.str (mkS l)) := fine_str (fun c m => by have := nm_sign h m; omega) (by omega)
theorem fine_w (s : Str) (h : ∀ c ∈ tl s, c < 0x110000) (hl : (tl s).length ≤ 100000) : Fine 0 (.str s) := by
  have := fine_str h hl
  rwa [mkS_tl] at this
theorem spl_cnt {S : Ln} (hS : S ≠ []) : ∀ (n : Nat) (l acc : Ln), l.length ≤ n → (spl S 0 acc l).length ≤ l.length + 1
  | 0, l, acc, h => by
    rw [List.length_eq_zero_iff.mp (Nat.le_zero.mp h), spl_nil]
    exact Nat.le_refl _
  | n + 1, [], acc, h => by rw [spl_nil]; exact Nat.le_refl _
  | n + 1, c :: r, acc, h => by
    cases hp : pre S (c :: r) with
    | true =>
      rw [spl_hit hp, spl_pass]
      have := spl_cnt hS n (r.drop (S.length - 1)) [] (by rw [List.length_drop]; simp only [List.length_cons] at h; omega)
      rw [List.length_drop] at this
      simp only [List.length_cons]
      omega
    | false =>
      rw [spl_miss hp]
      have := spl_cnt hS n r (acc ++ [c]) (by simp only [List.length_cons] at h; omega)
      simp only [List.length_cons]
      omega
theorem spl_sub {S : Ln} (hS : S ≠ []) : ∀ (n : Nat) (l acc : Ln), l.length ≤ n → ∀ w ∈ spl S 0 acc l, w.Sublist (acc ++ l)
  | 0, l, acc, h, w, m => by
    have e := List.length_eq_zero_iff.mp (Nat.le_zero.mp h)
    rw [e, spl_nil] at m
    rw [List.mem_singleton.mp m]
    exact List.sublist_append_left _ _
  | n + 1, [], acc, h, w, m => by
    rw [spl_nil] at m
    rw [List.mem_singleton.mp m]
    exact List.sublist_append_left _ _
  | n + 1, c :: r, acc, h, w, m => by
    cases hp : pre S (c :: r) with
    | true =>
      rw [spl_hit hp, spl_pass] at m
      rcases List.mem_cons.mp m with rfl | m
      · exact List.sublist_append_left _ _
      · have := spl_sub hS n (r.drop (S.length - 1)) [] (by rw [List.length_drop]; simp only [List.length_cons] at h; omega) w m
        rw [List.nil_append] at this
        exact (this.trans (List.drop_sublist _ _)).trans ((List.sublist_cons_self c r).trans (List.sublist_append_right _ _))
    | false =>
      rw [spl_miss hp] at m
      have := spl_sub hS n r (acc ++ [c]) (by simp only [List.length_cons] at h; omega) w m
      rw [List.append_assoc] at this
      exact this
theorem par_sub {S l a b : Ln} (h : par S [] l = some (a, b)) : a.Sublist l ∧ b.Sublist l := by
  rw [par_eq h]
  exact ⟨List.sublist_append_left _ _, (List.sublist_append_right S b).trans (List.sublist_append_right _ _)⟩
theorem kd_fine {nv : NV} {l : Ln} {d : PyData} (h : kdL nv l = some d) (hl : l.length ≤ 50000) : Fine 1 d ∧ ntD d = true := by
  unfold kdL at h
  by_cases a : (spW l).all (fun w => decide (w ∈ RT)) = true
  · rw [if_pos a] at h
    cases h
    have cnt := spl_cnt (S := [32]) (by simp) l.length l [] (Nat.le_refl _)
    refine ⟨fine_tup (n := 0) (fun d m => ?_) (by rw [List.length_map]; show (spl [32] 0 [] l).length ≤ _; omega), ?_⟩
    · obtain ⟨w, mw, rfl⟩ := List.mem_map.mp m
      have := of_decide_eq_true (List.all_eq_true.mp a w mw)
      rw [show RT = [[114, 119], [114], [119], [45]] from by decide +kernel] at this
      refine fine_str (fun c mc => ?_) ?_
      · simp only [List.mem_cons, List.not_mem_nil, or_false] at this
        rcases this with rfl | rfl | rfl | rfl <;> simp at mc <;> omega
      · simp only [List.mem_cons, List.not_mem_nil, or_false] at this
        rcases this with rfl | rfl | rfl | rfl <;> decide
    · have : ∀ ws : List Ln, ntA (ws.map fun w => PyData.str (mkS w)) = true := by
        intro ws
        induction ws with
        | nil => rfl
        | cons w ws ih => exact ih
      exact this _
  · rw [if_neg a] at h
    by_cases b : nuL l = true
    · rw [if_pos b] at h
      cases h
      exact ⟨(fine_int _).mono (by decide), rfl⟩
    · rw [if_neg b] at h
      cases h
theorem dc_fine {nv : NV} {l : Ln} {q : Str × PyData} (h : dcL nv l = some q) (hl : l.length ≤ 50000) : Fine 2 (dcD q) ∧ ntD (dcD q) = true ∧ Fine 0 (.str q.1) ∧ Fine 1 q.2 := by
  obtain ⟨a, b, k, e, n, hk, rfl⟩ := dc_some.mp h
  rw [e, List.length_append, List.length_append] at hl
  have fk := kd_fine hk (by omega)
  have fn := fine_nm n (by omega)
  refine ⟨fine_tup (n := 1) (fun d m => ?_) (by simp), ?_, fn, fk.1⟩
  · rcases List.mem_cons.mp m with rfl | m
    · exact fn.mono (by decide)
    · rw [List.mem_singleton.mp m]
      exact fk.1
  · show (ntD k && true) = true
    rw [fk.2]
    rfl
theorem pl_fine {l : Ln} {q : Str × Nat} (h : plL l = some q) (hl : l.length ≤ 50000) : Fine 1 (plD q.1 q.2) := by
  unfold plL at h
  split at h
  · rename_i n
    cases h
    have ld := (List.dropWhile_sublist (l := l) (· == 42)).length_le
    exact fine_tup (n := 0) (fun d m => by
      rcases List.mem_cons.mp m with rfl | m
      · exact fine_nm n (by omega)
      · rw [List.mem_singleton.mp m]
        exact fine_int _) (by simp)
  · cases h
theorem sr_fine {nv : NV} {l : Ln} {d : PyData} (h : srL nv l = some d) (hl : l.length ≤ 50000) : Fine 2 d ∧ ntD d = true := by
  have w1 : Fine 0 (.str "null") := fine_w _ (by decide +kernel) (by decide +kernel)
  have w2 : Fine 0 (.str "number") := fine_w _ (by decide +kernel) (by decide +kernel)
  have w3 : Fine 0 (.str "address") := fine_w _ (by decide +kernel) (by decide +kernel)
  have w4 : Fine 0 (.str "value") := fine_w _ (by decide +kernel) (by decide +kernel)
  have two : ∀ (s : Str) (q : Str × Nat), Fine 0 (.str s) → Fine 1 (plD q.1 q.2) → Fine 2 (.tuple [.str s, plD q.1 q.2]) := fun s q h1 h2 => fine_tup (n := 1) (fun d m => by
    rcases List.mem_cons.mp m with rfl | m
    · exact h1.mono (by decide)
    · rw [List.mem_singleton.mp m]
      exact h2) (by simp)
  unfold srL at h
  split at h
  · cases h
    exact ⟨(fine_tup (n := 0) (fun d m => by rw [List.mem_singleton.mp m]; exact w1) (by simp)).mono (by decide), rfl⟩
  · split at h
    · cases h
      refine ⟨(fine_tup (n := 0) (fun d m => ?_) (by simp)).mono (by decide), rfl⟩
      rcases List.mem_cons.mp m with rfl | m
      · exact w2
      · rw [List.mem_singleton.mp m]
        exact fine_int _
    · split at h
      · cases hp : plL l.tail with
        | none => rw [hp] at h; cases h
        | some q =>
          rw [hp] at h
          cases h
          exact ⟨two _ q w3 (pl_fine hp (by rw [List.length_tail]; omega)), rfl⟩
      · cases hp : plL l with
        | none => rw [hp] at h; cases h
        | some q =>
          rw [hp] at h
          cases h
          exact ⟨two _ q w4 (pl_fine hp hl), rfl⟩
def oD (o : Option PyData) : PyData := match o with
  | some d => d
  | none => .none
theorem oAll_cons {α β : Type} (f : α → Option β) (a : α) (l : List α) : oAll f (a :: l) = (f a).bind fun b => (oAll f l).map fun m => b :: m := by
  rw [oAll]
  cases f a with
  | none => rfl
  | some b => cases oAll f l <;> rfl
theorem oAll_any {α : Type} {f : α → Option PyData} : ∀ {l : List α}, (∀ a ∈ l, ∀ d, f a = some d → PyData.eqv d .none = false) → ((l.map fun a => oD (f a)).any fun z => PyData.eqv z .none) = (oAll f l).isNone
  | [], _ => rfl
  | a :: l, h => by
    have ih := oAll_any (l := l) fun b m => h b (List.mem_cons_of_mem _ m)
    rw [List.map_cons, List.any_cons, ih, oAll_cons]
    cases hf : f a with
    | none => rfl
    | some d =>
      have := h a (List.mem_cons_self ..) d hf
      show (PyData.eqv d .none || _) = _
      rw [this, Bool.false_or]
      cases oAll f l <;> rfl
theorem oAll_some {α β : Type} {f : α → Option β} {a : α} {l : List α} {m : List β} (h : oAll f (a :: l) = some m) : ∃ b m', f a = some b ∧ oAll f l = some m' ∧ m = b :: m' := by
  rw [oAll_cons] at h
  cases hf : f a with
  | none => rw [hf] at h; cases h
  | some b =>
    rw [hf] at h
    cases hl : oAll f l with
    | none => rw [hl] at h; cases h
    | some m' =>
      rw [hl] at h
      exact ⟨b, m', rfl, rfl, (Option.some.inj h).symm⟩
theorem oAll_map {α : Type} {f : α → Option PyData} : ∀ {l : List α} {m : List PyData}, oAll f l = some m → l.map (fun a => oD (f a)) = m
  | [], m, h => by cases h; rfl
  | a :: l, m, h => by
    obtain ⟨b, m', h1, h2, rfl⟩ := oAll_some h
    rw [List.map_cons, h1, oAll_map h2]
    rfl
theorem oAll_comp {α β γ : Type} {f : α → Option β} {g : β → γ} : ∀ l : List α, oAll (fun a => (f a).map g) l = (oAll f l).map (List.map g)
  | [] => rfl
  | a :: l => by
    rw [oAll_cons, oAll_cons, oAll_comp l]
    cases f a with
    | none => rfl
    | some b => cases oAll f l <;> rfl
theorem oAll_mem {α β : Type} {f : α → Option β} : ∀ {l : List α} {m : List β}, oAll f l = some m → ∀ b ∈ m, ∃ a ∈ l, f a = some b
  | [], m, h, b, mb => by cases h; cases mb
  | a :: l, m, h, b, mb => by
    obtain ⟨b0, m', h1, h2, rfl⟩ := oAll_some h
    rcases List.mem_cons.mp mb with rfl | mb
    · exact ⟨a, List.mem_cons_self .., h1⟩
    · obtain ⟨a', k1, k2⟩ := oAll_mem h2 b mb
      exact ⟨a', List.mem_cons_of_mem _ k1, k2⟩
theorem oAll_len {α β : Type} {f : α → Option β} : ∀ {l : List α} {m : List β}, oAll f l = some m → m.length = l.length
  | [], m, h => by cases h; rfl
  | a :: l, m, h => by
    obtain ⟨b0, m', h1, h2, rfl⟩ := oAll_some h
    rw [List.length_cons, List.length_cons, oAll_len h2]
theorem fine_none : Fine 0 .none := ⟨rfl, by simp [PyData.depth], rfl⟩
theorem pts_cnt (b : Ln) : (ptsL b).length ≤ b.length + 1 := by
  unfold ptsL
  split
  · exact Nat.zero_le _
  · exact spl_cnt (by rw [sCom]; simp) b.length b [] (Nat.le_refl _)
theorem pts_sub (b : Ln) : ∀ w ∈ ptsL b, w.Sublist b := fun w m => by
  unfold ptsL at m
  split at m
  · cases m
  · have := spl_sub (by rw [sCom]; simp) b.length b [] (Nat.le_refl _) w m
    rwa [List.nil_append] at this
theorem cl_some {l : Ln} {q : Str × List Ln} (h : clL l = some q) : ∃ a b, par [40] [] l = some (a, b) ∧ nmL a = true ∧ q = (mkS a, ptsL b.dropLast) := by
  unfold clL at h
  cases hp : par [40] [] l with
  | none => rw [hp] at h; cases h
  | some ab =>
    obtain ⟨a, b⟩ := ab
    rw [hp] at h
    have h' : (if (nmL a && decide (b.getLast? = some 41)) = true then some (mkS a, ptsL b.dropLast) else none) = some q := h
    split at h'
    · rename_i c
      cases h'
      rw [Bool.and_eq_true] at c
      exact ⟨a, b, rfl, c.1, rfl⟩
    · cases h'
theorem cl_fine {l : Ln} {q : Str × List Ln} (h : clL l = some q) (hl : l.length ≤ 50000) : Fine 0 (.str q.1) ∧ q.2.length ≤ 50001 ∧ ∀ w ∈ q.2, w.Sublist l := by
  obtain ⟨a, b, hp, n, rfl⟩ := cl_some h
  obtain ⟨s1, s2⟩ := par_sub hp
  have l1 := s1.length_le
  have l2 := s2.length_le
  have cnt := pts_cnt b.dropLast
  rw [List.length_dropLast] at cnt
  refine ⟨fine_nm n (by omega), by show (ptsL b.dropLast).length ≤ _; omega, fun w m => ((pts_sub _ w m).trans (List.dropLast_sublist _)).trans s2⟩
theorem hd_fine {nv : NV} {l : Ln} {q : Str × List PyData} (h : hdL nv l = some q) (hl : l.length ≤ 50000) : Fine 0 (.str q.1) ∧ q.2.length ≤ 50001 ∧ ∀ d ∈ q.2, Fine 2 d := by
  unfold hdL at h
  split at h
  · cases hc : clL (l.drop 4) with
    | none => rw [hc] at h; cases h
    | some c =>
      rw [hc] at h
      have h' : ((oAll (dcL nv) c.2).map fun ps => (c.1, ps.map dcD)) = some q := h
      obtain ⟨f1, f2, f3⟩ := cl_fine hc (by rw [List.length_drop]; omega)
      cases ho : oAll (dcL nv) c.2 with
      | none => rw [ho] at h'; cases h'
      | some ps =>
        rw [ho] at h'
        cases h'
        refine ⟨f1, by rw [List.length_map, oAll_len ho]; exact f2, fun d m => ?_⟩
        obtain ⟨p, mp, rfl⟩ := List.mem_map.mp m
        obtain ⟨w, mw, e⟩ := oAll_mem ho p mp
        have lw := (f3 w mw).length_le
        rw [List.length_drop] at lw
        exact (dc_fine e (by omega)).1
  · cases h
theorem st_fine {nv : NV} {l : Ln} {d : PyData} (h : stL nv l = some d) (hl : l.length ≤ 50000) : Fine 4 d := by
  have w1 : Fine 0 (.str "let") := fine_w _ (by decide +kernel) (by decide +kernel)
  have w2 : Fine 0 (.str "put") := fine_w _ (by decide +kernel) (by decide +kernel)
  have w3 : Fine 0 (.str "call") := fine_w _ (by decide +kernel) (by decide +kernel)
  have ld4 : (l.drop 4).length ≤ 50000 := by rw [List.length_drop]; omega
  have ld5 : (l.drop 5).length ≤ 50000 := by rw [List.length_drop]; omega
  unfold stL at h
  split at h
  · unfold ltL at h
    cases hp : par (tl " = ") [] (l.drop 4) with
    | none => rw [hp] at h; cases h
    | some ab =>
      obtain ⟨a, b⟩ := ab
      rw [hp] at h
      obtain ⟨s1, s2⟩ := par_sub hp
      have l1 := s1.length_le
      have l2 := s2.length_le
      have h' : ((dcL nv a).bind fun q => (srL nv b).map fun s => PyData.tuple [.str "let", .str q.1, q.2, s]) = some d := h
      cases hd : dcL nv a with
      | none => rw [hd] at h'; cases h'
      | some q =>
        cases hs : srL nv b with
        | none => rw [hd, hs] at h'; cases h'
        | some s =>
          rw [hd, hs] at h'
          cases h'
          obtain ⟨_, _, f1, f2⟩ := dc_fine hd (by omega)
          have f3 := sr_fine hs (by omega)
          refine (fine_tup (n := 2) (fun d m => ?_) (by simp)).mono (by decide)
          simp only [List.mem_cons, List.not_mem_nil, or_false] at m
          rcases m with rfl | rfl | rfl | rfl
          · exact w1.mono (by decide)
          · exact f1.mono (by decide)
          · exact f2.mono (by decide)
          · exact f3.1
  · split at h
    · unfold ptL at h
      cases hp : par (tl " = ") [] (l.drop 4) with
      | none => rw [hp] at h; cases h
      | some ab =>
        obtain ⟨a, b⟩ := ab
        rw [hp] at h
        obtain ⟨s1, s2⟩ := par_sub hp
        have l1 := s1.length_le
        have l2 := s2.length_le
        have h' : ((plL a).bind fun q => (srL nv b).map fun s => PyData.tuple [.str "put", plD q.1 q.2, s]) = some d := h
        cases hd : plL a with
        | none => rw [hd] at h'; cases h'
        | some q =>
          cases hs : srL nv b with
          | none => rw [hd, hs] at h'; cases h'
          | some s =>
            rw [hd, hs] at h'
            cases h'
            have f2 := pl_fine hd (by omega)
            have f3 := sr_fine hs (by omega)
            refine (fine_tup (n := 2) (fun d m => ?_) (by simp)).mono (by decide)
            simp only [List.mem_cons, List.not_mem_nil, or_false] at m
            rcases m with rfl | rfl | rfl
            · exact w2.mono (by decide)
            · exact f2.mono (by decide)
            · exact f3.1
    · split at h
      · unfold caL at h
        cases hc : clL (l.drop 5) with
        | none => rw [hc] at h; cases h
        | some c =>
          rw [hc] at h
          have h' : ((oAll (srL nv) c.2).map fun ss => PyData.tuple [.str "call", .str c.1, .list ss]) = some d := h
          obtain ⟨f1, f2, f3⟩ := cl_fine hc ld5
          cases ho : oAll (srL nv) c.2 with
          | none => rw [ho] at h'; cases h'
          | some ps =>
            rw [ho] at h'
            cases h'
            refine fine_tup (n := 3) (fun d m => ?_) (by simp)
            simp only [List.mem_cons, List.not_mem_nil, or_false] at m
            rcases m with rfl | rfl | rfl
            · exact w3.mono (by decide)
            · exact f1.mono (by decide)
            · refine fine_lst (n := 2) (fun d m => ?_) (by rw [oAll_len ho]; omega)
              obtain ⟨w, mw, e⟩ := oAll_mem ho d m
              have lw := (f3 w mw).length_le
              exact (sr_fine e (by omega)).1
      · cases h
end Ver
set_option Elab.async false
set_option linter.all false
set_option maxRecDepth 100000
set_option maxHeartbeats 4000000
namespace Ver
open PySem PySem.Spec PyProof.Rows L2 Evl
def topS (i : Nat) : Stmt := PySem.Challenge.pw_rightskept_k19_texts.main.body.getD i (.Pass ⟨0, 0, 0, 0⟩)
abbrev s_RightsError_init : Stmt := inClass (topS 1) 0
abbrev n_RightsError_init : List Str := ["self", "reason"]
abbrev p_RightsError_init : List Str := ["self", "reason"]
theorem sc_RightsError_init : FnScope n_RightsError_init p_RightsError_init (defScope s_RightsError_init) := ⟨rfl, rfl, rfl, by decide +kernel, rfl, by decide +kernel, by decide +kernel⟩
abbrev s_TextError_init : Stmt := inClass (topS 2) 0
abbrev n_TextError_init : List Str := ["self", "line", "reason"]
abbrev p_TextError_init : List Str := ["self", "line", "reason"]
theorem sc_TextError_init : FnScope n_TextError_init p_TextError_init (defScope s_TextError_init) := ⟨rfl, rfl, rfl, by decide +kernel, rfl, by decide +kernel, by decide +kernel⟩
abbrev s_is_right : Stmt := topS 6
abbrev n_is_right : List Str := ["thing"]
abbrev p_is_right : List Str := ["thing"]
theorem sc_is_right : FnScope n_is_right p_is_right (defScope s_is_right) := ⟨rfl, rfl, rfl, by decide +kernel, rfl, by decide +kernel, by decide +kernel⟩
abbrev s_is_type : Stmt := topS 7
abbrev n_is_type : List Str := ["thing"]
abbrev p_is_type : List Str := ["thing"]
theorem sc_is_type : FnScope n_is_type p_is_type (defScope s_is_type) := ⟨rfl, rfl, rfl, by decide +kernel, rfl, by decide +kernel, by decide +kernel⟩
abbrev s_is_value_type : Stmt := topS 8
abbrev n_is_value_type : List Str := ["thing", "part"]
abbrev p_is_value_type : List Str := ["thing"]
theorem sc_is_value_type : FnScope n_is_value_type p_is_value_type (defScope s_is_value_type) := ⟨rfl, rfl, rfl, by decide +kernel, rfl, by decide +kernel, by decide +kernel⟩
abbrev s_is_number : Stmt := topS 15
abbrev n_is_number : List Str := ["thing", "most"]
abbrev p_is_number : List Str := ["thing", "most"]
theorem sc_is_number : FnScope n_is_number p_is_number (defScope s_is_number) := ⟨rfl, rfl, rfl, by decide +kernel, rfl, by decide +kernel, by decide +kernel⟩
abbrev s_is_name : Stmt := topS 16
abbrev n_is_name : List Str := ["thing", "sign"]
abbrev p_is_name : List Str := ["thing"]
theorem sc_is_name : FnScope n_is_name p_is_name (defScope s_is_name) := ⟨rfl, rfl, rfl, by decide +kernel, rfl, by decide +kernel, by decide +kernel⟩
abbrev s_is_depth : Stmt := topS 17
abbrev n_is_depth : List Str := ["thing"]
abbrev p_is_depth : List Str := ["thing"]
theorem sc_is_depth : FnScope n_is_depth p_is_depth (defScope s_is_depth) := ⟨rfl, rfl, rfl, by decide +kernel, rfl, by decide +kernel, by decide +kernel⟩
abbrev s_is_place : Stmt := topS 18
abbrev n_is_place : List Str := ["thing"]
abbrev p_is_place : List Str := ["thing"]
theorem sc_is_place : FnScope n_is_place p_is_place (defScope s_is_place) := ⟨rfl, rfl, rfl, by decide +kernel, rfl, by decide +kernel, by decide +kernel⟩
abbrev s_first_word : Stmt := topS 19
abbrev n_first_word : List Str := ["thing", "word"]
abbrev p_first_word : List Str := ["thing"]
theorem sc_first_word : FnScope n_first_word p_first_word (defScope s_first_word) := ⟨rfl, rfl, rfl, by decide +kernel, rfl, by decide +kernel, by decide +kernel⟩
abbrev s_is_source : Stmt := topS 20
abbrev n_is_source : List Str := ["thing", "word"]
abbrev p_is_source : List Str := ["thing"]
theorem sc_is_source : FnScope n_is_source p_is_source (defScope s_is_source) := ⟨rfl, rfl, rfl, by decide +kernel, rfl, by decide +kernel, by decide +kernel⟩
abbrev s_is_source_list : Stmt := topS 21
abbrev n_is_source_list : List Str := ["thing", "part"]
abbrev p_is_source_list : List Str := ["thing"]
theorem sc_is_source_list : FnScope n_is_source_list p_is_source_list (defScope s_is_source_list) := ⟨rfl, rfl, rfl, by decide +kernel, rfl, by decide +kernel, by decide +kernel⟩
abbrev s_is_declared : Stmt := topS 22
abbrev n_is_declared : List Str := ["thing"]
abbrev p_is_declared : List Str := ["thing"]
theorem sc_is_declared : FnScope n_is_declared p_is_declared (defScope s_is_declared) := ⟨rfl, rfl, rfl, by decide +kernel, rfl, by decide +kernel, by decide +kernel⟩
abbrev s_is_statement : Stmt := topS 23
abbrev n_is_statement : List Str := ["thing", "word"]
abbrev p_is_statement : List Str := ["thing"]
theorem sc_is_statement : FnScope n_is_statement p_is_statement (defScope s_is_statement) := ⟨rfl, rfl, rfl, by decide +kernel, rfl, by decide +kernel, by decide +kernel⟩
abbrev s_Function_init : Stmt := inClass (topS 29) 0
abbrev n_Function_init : List Str := ["self", "name", "params", "body"]
abbrev p_Function_init : List Str := ["self", "name", "params", "body"]
theorem sc_Function_init : FnScope n_Function_init p_Function_init (defScope s_Function_init) := ⟨rfl, rfl, rfl, by decide +kernel, rfl, by decide +kernel, by decide +kernel⟩
abbrev s_Program_init : Stmt := inClass (topS 30) 0
abbrev n_Program_init : List Str := ["self", "functions", "statements"]
abbrev p_Program_init : List Str := ["self", "functions", "statements"]
theorem sc_Program_init : FnScope n_Program_init p_Program_init (defScope s_Program_init) := ⟨rfl, rfl, rfl, by decide +kernel, rfl, by decide +kernel, by decide +kernel⟩
abbrev s_copied : Stmt := topS 31
abbrev n_copied : List Str := ["thing"]
abbrev p_copied : List Str := ["thing"]
theorem sc_copied : FnScope n_copied p_copied (defScope s_copied) := ⟨rfl, rfl, rfl, by decide +kernel, rfl, by decide +kernel, by decide +kernel⟩
abbrev s_copied_statement : Stmt := topS 32
abbrev n_copied_statement : List Str := ["statement", "part"]
abbrev p_copied_statement : List Str := ["statement"]
theorem sc_copied_statement : FnScope n_copied_statement p_copied_statement (defScope s_copied_statement) := ⟨rfl, rfl, rfl, by decide +kernel, rfl, by decide +kernel, by decide +kernel⟩
abbrev s_copied_statements : Stmt := topS 33
abbrev n_copied_statements : List Str := ["statements", "statement"]
abbrev p_copied_statements : List Str := ["statements"]
theorem sc_copied_statements : FnScope n_copied_statements p_copied_statements (defScope s_copied_statements) := ⟨rfl, rfl, rfl, by decide +kernel, rfl, by decide +kernel, by decide +kernel⟩
abbrev s_copied_function : Stmt := topS 34
abbrev n_copied_function : List Str := ["function"]
abbrev p_copied_function : List Str := ["function"]
theorem sc_copied_function : FnScope n_copied_function p_copied_function (defScope s_copied_function) := ⟨rfl, rfl, rfl, by decide +kernel, rfl, by decide +kernel, by decide +kernel⟩
abbrev s_copied_functions : Stmt := topS 35
abbrev n_copied_functions : List Str := ["functions", "function"]
abbrev p_copied_functions : List Str := ["functions"]
theorem sc_copied_functions : FnScope n_copied_functions p_copied_functions (defScope s_copied_functions) := ⟨rfl, rfl, rfl, by decide +kernel, rfl, by decide +kernel, by decide +kernel⟩
abbrev s_is_program : Stmt := topS 36
abbrev n_is_program : List Str := ["functions", "statements", "function"]
abbrev p_is_program : List Str := ["functions", "statements"]
theorem sc_is_program : FnScope n_is_program p_is_program (defScope s_is_program) := ⟨rfl, rfl, rfl, by decide +kernel, rfl, by decide +kernel, by decide +kernel⟩
abbrev s_is_function : Stmt := topS 37
abbrev n_is_function : List Str := ["thing", "param"]
abbrev p_is_function : List Str := ["thing"]
theorem sc_is_function : FnScope n_is_function p_is_function (defScope s_is_function) := ⟨rfl, rfl, rfl, by decide +kernel, rfl, by decide +kernel, by decide +kernel⟩
abbrev s_are_statements : Stmt := topS 38
abbrev n_are_statements : List Str := ["thing", "most", "part"]
abbrev p_are_statements : List Str := ["thing", "most"]
theorem sc_are_statements : FnScope n_are_statements p_are_statements (defScope s_are_statements) := ⟨rfl, rfl, rfl, by decide +kernel, rfl, by decide +kernel, by decide +kernel⟩
abbrev s_declared : Stmt := topS 39
abbrev n_declared : List Str := ["functions", "statements", "pairs", "function"]
abbrev p_declared : List Str := ["functions", "statements"]
theorem sc_declared : FnScope n_declared p_declared (defScope s_declared) := ⟨rfl, rfl, rfl, by decide +kernel, rfl, by decide +kernel, by decide +kernel⟩
abbrev s_declared_by_lets : Stmt := topS 40
abbrev n_declared_by_lets : List Str := ["statements", "statement"]
abbrev p_declared_by_lets : List Str := ["statements"]
theorem sc_declared_by_lets : FnScope n_declared_by_lets p_declared_by_lets (defScope s_declared_by_lets) := ⟨rfl, rfl, rfl, by decide +kernel, rfl, by decide +kernel, by decide +kernel⟩
abbrev s_all_names : Stmt := topS 41
abbrev n_all_names : List Str := ["functions", "statements", "names", "function", "name", "_"]
abbrev p_all_names : List Str := ["functions", "statements"]
theorem sc_all_names : FnScope n_all_names p_all_names (defScope s_all_names) := ⟨rfl, rfl, rfl, by decide +kernel, rfl, by decide +kernel, by decide +kernel⟩
abbrev s_all_kinds : Stmt := topS 42
abbrev n_all_kinds : List Str := ["functions", "statements", "_", "kind"]
abbrev p_all_kinds : List Str := ["functions", "statements"]
theorem sc_all_kinds : FnScope n_all_kinds p_all_kinds (defScope s_all_kinds) := ⟨rfl, rfl, rfl, by decide +kernel, rfl, by decide +kernel, by decide +kernel⟩
abbrev s_are_different : Stmt := topS 43
abbrev n_are_different : List Str := ["names"]
abbrev p_are_different : List Str := ["names"]
theorem sc_are_different : FnScope n_are_different p_are_different (defScope s_are_different) := ⟨rfl, rfl, rfl, by decide +kernel, rfl, by decide +kernel, by decide +kernel⟩
abbrev s_are_of_one_kind : Stmt := topS 44
abbrev n_are_of_one_kind : List Str := ["kinds", "kind"]
abbrev p_are_of_one_kind : List Str := ["kinds"]
theorem sc_are_of_one_kind : FnScope n_are_of_one_kind p_are_of_one_kind (defScope s_are_of_one_kind) := ⟨rfl, rfl, rfl, by decide +kernel, rfl, by decide +kernel, by decide +kernel⟩
abbrev s_all_calls_fit : Stmt := topS 45
abbrev n_all_calls_fit : List Str := ["functions", "statements", "many", "function"]
abbrev p_all_calls_fit : List Str := ["functions", "statements"]
theorem sc_all_calls_fit : FnScope n_all_calls_fit p_all_calls_fit (defScope s_all_calls_fit) := ⟨rfl, rfl, rfl, by decide +kernel, rfl, by decide +kernel, by decide +kernel⟩
abbrev s_calls_fit : Stmt := topS 46
abbrev n_calls_fit : List Str := ["statements", "many", "statement"]
abbrev p_calls_fit : List Str := ["statements", "many"]
theorem sc_calls_fit : FnScope n_calls_fit p_calls_fit (defScope s_calls_fit) := ⟨rfl, rfl, rfl, by decide +kernel, rfl, by decide +kernel, by decide +kernel⟩
abbrev s_text_of : Stmt := topS 50
abbrev n_text_of : List Str := ["program", "lines", "function", "params", "statement", "line", "name", "kind"]
abbrev p_text_of : List Str := ["program"]
theorem sc_text_of : FnScope n_text_of p_text_of (defScope s_text_of) := ⟨rfl, rfl, rfl, by decide +kernel, rfl, by decide +kernel, by decide +kernel⟩
abbrev s_declared_text : Stmt := topS 51
abbrev n_declared_text : List Str := ["name", "kind"]
abbrev p_declared_text : List Str := ["name", "kind"]
theorem sc_declared_text : FnScope n_declared_text p_declared_text (defScope s_declared_text) := ⟨rfl, rfl, rfl, by decide +kernel, rfl, by decide +kernel, by decide +kernel⟩
abbrev s_place_text : Stmt := topS 52
abbrev n_place_text : List Str := ["place", "name", "stars"]
abbrev p_place_text : List Str := ["place"]
theorem sc_place_text : FnScope n_place_text p_place_text (defScope s_place_text) := ⟨rfl, rfl, rfl, by decide +kernel, rfl, by decide +kernel, by decide +kernel⟩
abbrev s_source_text : Stmt := topS 53
abbrev n_source_text : List Str := ["source", "word"]
abbrev p_source_text : List Str := ["source"]
theorem sc_source_text : FnScope n_source_text p_source_text (defScope s_source_text) := ⟨rfl, rfl, rfl, by decide +kernel, rfl, by decide +kernel, by decide +kernel⟩
abbrev s_statement_text : Stmt := topS 54
abbrev n_statement_text : List Str := ["statement", "word", "_", "name", "kind", "source", "sources"]
abbrev p_statement_text : List Str := ["statement"]
theorem sc_statement_text : FnScope n_statement_text p_statement_text (defScope s_statement_text) := ⟨rfl, rfl, rfl, by decide +kernel, rfl, by decide +kernel, by decide +kernel⟩
abbrev s_consists_of : Stmt := topS 55
abbrev n_consists_of : List Str := ["text", "signs", "sign"]
abbrev p_consists_of : List Str := ["text", "signs"]
theorem sc_consists_of : FnScope n_consists_of p_consists_of (defScope s_consists_of) := ⟨rfl, rfl, rfl, by decide +kernel, rfl, by decide +kernel, by decide +kernel⟩
abbrev s_name_read : Stmt := topS 56
abbrev n_name_read : List Str := ["text"]
abbrev p_name_read : List Str := ["text"]
theorem sc_name_read : FnScope n_name_read p_name_read (defScope s_name_read) := ⟨rfl, rfl, rfl, by decide +kernel, rfl, by decide +kernel, by decide +kernel⟩
abbrev s_number_read : Stmt := topS 57
abbrev n_number_read : List Str := ["text"]
abbrev p_number_read : List Str := ["text"]
theorem sc_number_read : FnScope n_number_read p_number_read (defScope s_number_read) := ⟨rfl, rfl, rfl, by decide +kernel, rfl, by decide +kernel, by decide +kernel⟩
abbrev s_kind_read : Stmt := topS 58
abbrev n_kind_read : List Str := ["text", "words", "word"]
abbrev p_kind_read : List Str := ["text"]
theorem sc_kind_read : FnScope n_kind_read p_kind_read (defScope s_kind_read) := ⟨rfl, rfl, rfl, by decide +kernel, rfl, by decide +kernel, by decide +kernel⟩
abbrev s_declared_read : Stmt := topS 59
abbrev n_declared_read : List Str := ["text", "head", "_", "tail", "name", "kind"]
abbrev p_declared_read : List Str := ["text"]
theorem sc_declared_read : FnScope n_declared_read p_declared_read (defScope s_declared_read) := ⟨rfl, rfl, rfl, by decide +kernel, rfl, by decide +kernel, by decide +kernel⟩
abbrev s_place_read : Stmt := topS 60
abbrev n_place_read : List Str := ["text", "head", "name"]
abbrev p_place_read : List Str := ["text"]
theorem sc_place_read : FnScope n_place_read p_place_read (defScope s_place_read) := ⟨rfl, rfl, rfl, by decide +kernel, rfl, by decide +kernel, by decide +kernel⟩
abbrev s_source_read : Stmt := topS 61
abbrev n_source_read : List Str := ["text", "number", "word", "place"]
abbrev p_source_read : List Str := ["text"]
theorem sc_source_read : FnScope n_source_read p_source_read (defScope s_source_read) := ⟨rfl, rfl, rfl, by decide +kernel, rfl, by decide +kernel, by decide +kernel⟩
abbrev s_called_read : Stmt := topS 62
abbrev n_called_read : List Str := ["text", "head", "_", "tail", "name", "inner"]
abbrev p_called_read : List Str := ["text"]
theorem sc_called_read : FnScope n_called_read p_called_read (defScope s_called_read) := ⟨rfl, rfl, rfl, by decide +kernel, rfl, by decide +kernel, by decide +kernel⟩
abbrev s_head_read : Stmt := topS 63
abbrev n_head_read : List Str := ["line", "called", "name", "parts", "params", "part"]
abbrev p_head_read : List Str := ["line"]
theorem sc_head_read : FnScope n_head_read p_head_read (defScope s_head_read) := ⟨rfl, rfl, rfl, by decide +kernel, rfl, by decide +kernel, by decide +kernel⟩
abbrev s_let_read : Stmt := topS 64
abbrev n_let_read : List Str := ["text", "head", "_", "tail", "pair", "source"]
abbrev p_let_read : List Str := ["text"]
theorem sc_let_read : FnScope n_let_read p_let_read (defScope s_let_read) := ⟨rfl, rfl, rfl, by decide +kernel, rfl, by decide +kernel, by decide +kernel⟩
abbrev s_put_read : Stmt := topS 65
abbrev n_put_read : List Str := ["text", "head", "_", "tail", "place", "source"]
abbrev p_put_read : List Str := ["text"]
theorem sc_put_read : FnScope n_put_read p_put_read (defScope s_put_read) := ⟨rfl, rfl, rfl, by decide +kernel, rfl, by decide +kernel, by decide +kernel⟩
abbrev s_call_read : Stmt := topS 66
abbrev n_call_read : List Str := ["text", "called", "name", "parts", "sources", "part"]
abbrev p_call_read : List Str := ["text"]
theorem sc_call_read : FnScope n_call_read p_call_read (defScope s_call_read) := ⟨rfl, rfl, rfl, by decide +kernel, rfl, by decide +kernel, by decide +kernel⟩
abbrev s_statement_read : Stmt := topS 67
abbrev n_statement_read : List Str := ["line", "word", "_", "text"]
abbrev p_statement_read : List Str := ["line"]
theorem sc_statement_read : FnScope n_statement_read p_statement_read (defScope s_statement_read) := ⟨rfl, rfl, rfl, by decide +kernel, rfl, by decide +kernel, by decide +kernel⟩
abbrev s_Reader_init : Stmt := inClass (topS 68) 0
abbrev n_Reader_init : List Str := ["self"]
abbrev p_Reader_init : List Str := ["self"]
theorem sc_Reader_init : FnScope n_Reader_init p_Reader_init (defScope s_Reader_init) := ⟨rfl, rfl, rfl, by decide +kernel, rfl, by decide +kernel, by decide +kernel⟩
abbrev s_Reader_takes : Stmt := inClass (topS 68) 1
abbrev n_Reader_takes : List Str := ["self", "line"]
abbrev p_Reader_takes : List Str := ["self", "line"]
theorem sc_Reader_takes : FnScope n_Reader_takes p_Reader_takes (defScope s_Reader_takes) := ⟨rfl, rfl, rfl, by decide +kernel, rfl, by decide +kernel, by decide +kernel⟩
abbrev s_Reader_takes_head : Stmt := inClass (topS 68) 2
abbrev n_Reader_takes_head : List Str := ["self", "line"]
abbrev p_Reader_takes_head : List Str := ["self", "line"]
theorem sc_Reader_takes_head : FnScope n_Reader_takes_head p_Reader_takes_head (defScope s_Reader_takes_head) := ⟨rfl, rfl, rfl, by decide +kernel, rfl, by decide +kernel, by decide +kernel⟩
abbrev s_Reader_takes_in_function : Stmt := inClass (topS 68) 3
abbrev n_Reader_takes_in_function : List Str := ["self", "line", "name", "params"]
abbrev p_Reader_takes_in_function : List Str := ["self", "line"]
theorem sc_Reader_takes_in_function : FnScope n_Reader_takes_in_function p_Reader_takes_in_function (defScope s_Reader_takes_in_function) := ⟨rfl, rfl, rfl, by decide +kernel, rfl, by decide +kernel, by decide +kernel⟩
abbrev s_takes_statement : Stmt := topS 69
abbrev n_takes_statement : List Str := ["statements", "line", "statement"]
abbrev p_takes_statement : List Str := ["statements", "line"]
theorem sc_takes_statement : FnScope n_takes_statement p_takes_statement (defScope s_takes_statement) := ⟨rfl, rfl, rfl, by decide +kernel, rfl, by decide +kernel, by decide +kernel⟩
abbrev s_read_program : Stmt := topS 70
abbrev n_read_program : List Str := ["text", "lines", "feeds", "rest", "reader", "at", "line"]
abbrev p_read_program : List Str := ["text"]
theorem sc_read_program : FnScope n_read_program p_read_program (defScope s_read_program) := ⟨rfl, rfl, rfl, by decide +kernel, rfl, by decide +kernel, by decide +kernel⟩
abbrev s__law_cell : Stmt := topS 72
abbrev n__law_cell : List Str := ["script", "k"]
abbrev p__law_cell : List Str := ["script", "k"]
theorem sc__law_cell : FnScope n__law_cell p__law_cell (defScope s__law_cell) := ⟨rfl, rfl, rfl, by decide +kernel, rfl, by decide +kernel, by decide +kernel⟩
abbrev s__law_row : Stmt := topS 73
abbrev n__law_row : List Str := ["script", "first", "last", "row", "k", "cell", "turn"]
abbrev p__law_row : List Str := ["script", "first", "last"]
theorem sc__law_row : FnScope n__law_row p__law_row (defScope s__law_row) := ⟨rfl, rfl, rfl, by decide +kernel, rfl, by decide +kernel, by decide +kernel⟩
abbrev s__law_draw : Stmt := topS 74
abbrev n__law_draw : List Str := ["box", "many", "at"]
abbrev p__law_draw : List Str := ["box", "many"]
theorem sc__law_draw : FnScope n__law_draw p__law_draw (defScope s__law_draw) := ⟨rfl, rfl, rfl, by decide +kernel, rfl, by decide +kernel, by decide +kernel⟩
abbrev s__law_right : Stmt := topS 75
abbrev n__law_right : List Str := ["box"]
abbrev p__law_right : List Str := ["box"]
theorem sc__law_right : FnScope n__law_right p__law_right (defScope s__law_right) := ⟨rfl, rfl, rfl, by decide +kernel, rfl, by decide +kernel, by decide +kernel⟩
abbrev s__law_rights : Stmt := topS 76
abbrev n__law_rights : List Str := ["box", "many", "k"]
abbrev p__law_rights : List Str := ["box", "many"]
theorem sc__law_rights : FnScope n__law_rights p__law_rights (defScope s__law_rights) := ⟨rfl, rfl, rfl, by decide +kernel, rfl, by decide +kernel, by decide +kernel⟩
abbrev s__law_source : Stmt := topS 81
abbrev n__law_source : List Str := ["box", "names", "types", "value", "kind", "x", "fits", "k"]
abbrev p__law_source : List Str := ["box", "names", "types", "value"]
theorem sc__law_source : FnScope n__law_source p__law_source (defScope s__law_source) := ⟨rfl, rfl, rfl, by decide +kernel, rfl, by decide +kernel, by decide +kernel⟩
abbrev s__law_statement : Stmt := topS 82
abbrev n__law_statement : List Str := ["box", "fresh", "names", "types", "calls", "kind", "f", "x", "k", "T", "told", "param"]
abbrev p__law_statement : List Str := ["box", "fresh", "names", "types", "calls"]
theorem sc__law_statement : FnScope n__law_statement p__law_statement (defScope s__law_statement) := ⟨rfl, rfl, rfl, by decide +kernel, rfl, by decide +kernel, by decide +kernel⟩
abbrev s__law_names : Stmt := topS 83
abbrev n__law_names : List Str := ["out", "a", "b"]
abbrev p__law_names : List Str := []
theorem sc__law_names : FnScope n__law_names p__law_names (defScope s__law_names) := ⟨rfl, rfl, rfl, by decide +kernel, rfl, by decide +kernel, by decide +kernel⟩
abbrev s__law_function : Stmt := topS 84
abbrev n__law_function : List Str := ["box", "fresh", "name", "functions", "names", "types", "params", "j", "x", "body"]
abbrev p__law_function : List Str := ["box", "fresh", "name", "functions"]
theorem sc__law_function : FnScope n__law_function p__law_function (defScope s__law_function) := ⟨rfl, rfl, rfl, by decide +kernel, rfl, by decide +kernel, by decide +kernel⟩
abbrev s__law_program : Stmt := topS 85
abbrev n__law_program : List Str := ["box", "most", "fresh", "functions", "k", "names", "types"]
abbrev p__law_program : List Str := ["box", "most"]
theorem sc__law_program : FnScope n__law_program p__law_program (defScope s__law_program) := ⟨rfl, rfl, rfl, by decide +kernel, rfl, by decide +kernel, by decide +kernel⟩
abbrev s__law_made : Stmt := topS 86
abbrev n__law_made : List Str := ["p", "functions", "f"]
abbrev p__law_made : List Str := ["p"]
theorem sc__law_made : FnScope n__law_made p__law_made (defScope s__law_made) := ⟨rfl, rfl, rfl, by decide +kernel, rfl, by decide +kernel, by decide +kernel⟩
abbrev s__law_show_type : Stmt := topS 87
abbrev n__law_show_type : List Str := ["T"]
abbrev p__law_show_type : List Str := ["T"]
theorem sc__law_show_type : FnScope n__law_show_type p__law_show_type (defScope s__law_show_type) := ⟨rfl, rfl, rfl, by decide +kernel, rfl, by decide +kernel, by decide +kernel⟩
abbrev s__law_show_source : Stmt := topS 88
abbrev n__law_show_source : List Str := ["source"]
abbrev p__law_show_source : List Str := ["source"]
theorem sc__law_show_source : FnScope n__law_show_source p__law_show_source (defScope s__law_show_source) := ⟨rfl, rfl, rfl, by decide +kernel, rfl, by decide +kernel, by decide +kernel⟩
abbrev s__law_show : Stmt := topS 89
abbrev n__law_show : List Str := ["st", "source"]
abbrev p__law_show : List Str := ["st"]
theorem sc__law_show : FnScope n__law_show p__law_show (defScope s__law_show) := ⟨rfl, rfl, rfl, by decide +kernel, rfl, by decide +kernel, by decide +kernel⟩
abbrev s__law_text : Stmt := topS 90
abbrev n__law_text : List Str := ["p", "lines", "f", "st", "line", "param"]
abbrev p__law_text : List Str := ["p"]
theorem sc__law_text : FnScope n__law_text p__law_text (defScope s__law_text) := ⟨rfl, rfl, rfl, by decide +kernel, rfl, by decide +kernel, by decide +kernel⟩
abbrev s__law_is_name : Stmt := topS 91
abbrev n__law_is_name : List Str := ["word", "sign"]
abbrev p__law_is_name : List Str := ["word"]
theorem sc__law_is_name : FnScope n__law_is_name p__law_is_name (defScope s__law_is_name) := ⟨rfl, rfl, rfl, by decide +kernel, rfl, by decide +kernel, by decide +kernel⟩
abbrev s__law_number : Stmt := topS 92
abbrev n__law_number : List Str := ["word", "sign"]
abbrev p__law_number : List Str := ["word"]
theorem sc__law_number : FnScope n__law_number p__law_number (defScope s__law_number) := ⟨rfl, rfl, rfl, by decide +kernel, rfl, by decide +kernel, by decide +kernel⟩
abbrev s__law_type : Stmt := topS 93
abbrev n__law_type : List Str := ["text", "words", "word"]
abbrev p__law_type : List Str := ["text"]
theorem sc__law_type : FnScope n__law_type p__law_type (defScope s__law_type) := ⟨rfl, rfl, rfl, by decide +kernel, rfl, by decide +kernel, by decide +kernel⟩
abbrev s__law_place : Stmt := topS 94
abbrev n__law_place : List Str := ["text", "name"]
abbrev p__law_place : List Str := ["text"]
theorem sc__law_place : FnScope n__law_place p__law_place (defScope s__law_place) := ⟨rfl, rfl, rfl, by decide +kernel, rfl, by decide +kernel, by decide +kernel⟩
abbrev s__law_source_of : Stmt := topS 95
abbrev n__law_source_of : List Str := ["text", "kind", "place"]
abbrev p__law_source_of : List Str := ["text"]
theorem sc__law_source_of : FnScope n__law_source_of p__law_source_of (defScope s__law_source_of) := ⟨rfl, rfl, rfl, by decide +kernel, rfl, by decide +kernel, by decide +kernel⟩
abbrev s__law_parted : Stmt := topS 96
abbrev n__law_parted : List Str := ["text", "first", "second", "rest"]
abbrev p__law_parted : List Str := ["text", "first", "second"]
theorem sc__law_parted : FnScope n__law_parted p__law_parted (defScope s__law_parted) := ⟨rfl, rfl, rfl, by decide +kernel, rfl, by decide +kernel, by decide +kernel⟩
abbrev s__law_let : Stmt := topS 97
abbrev n__law_let : List Str := ["text", "parts"]
abbrev p__law_let : List Str := ["text"]
theorem sc__law_let : FnScope n__law_let p__law_let (defScope s__law_let) := ⟨rfl, rfl, rfl, by decide +kernel, rfl, by decide +kernel, by decide +kernel⟩
abbrev s__law_put : Stmt := topS 98
abbrev n__law_put : List Str := ["text", "at", "place", "source"]
abbrev p__law_put : List Str := ["text"]
theorem sc__law_put : FnScope n__law_put p__law_put (defScope s__law_put) := ⟨rfl, rfl, rfl, by decide +kernel, rfl, by decide +kernel, by decide +kernel⟩
abbrev s__law_call : Stmt := topS 99
abbrev n__law_call : List Str := ["text", "inner", "sources", "part"]
abbrev p__law_call : List Str := ["text"]
theorem sc__law_call : FnScope n__law_call p__law_call (defScope s__law_call) := ⟨rfl, rfl, rfl, by decide +kernel, rfl, by decide +kernel, by decide +kernel⟩
abbrev s__law_statement_of : Stmt := topS 100
abbrev n__law_statement_of : List Str := ["line"]
abbrev p__law_statement_of : List Str := ["line"]
theorem sc__law_statement_of : FnScope n__law_statement_of p__law_statement_of (defScope s__law_statement_of) := ⟨rfl, rfl, rfl, by decide +kernel, rfl, by decide +kernel, by decide +kernel⟩
abbrev s__law_def : Stmt := topS 101
abbrev n__law_def : List Str := ["line", "inner", "params", "part", "pair"]
abbrev p__law_def : List Str := ["line"]
theorem sc__law_def : FnScope n__law_def p__law_def (defScope s__law_def) := ⟨rfl, rfl, rfl, by decide +kernel, rfl, by decide +kernel, by decide +kernel⟩
abbrev s__law_taken : Stmt := topS 102
abbrev n__law_taken : List Str := ["state", "line", "st", "f"]
abbrev p__law_taken : List Str := ["state", "line"]
theorem sc__law_taken : FnScope n__law_taken p__law_taken (defScope s__law_taken) := ⟨rfl, rfl, rfl, by decide +kernel, rfl, by decide +kernel, by decide +kernel⟩
abbrev s__law_due : Stmt := topS 103
abbrev n__law_due : List Str := ["text", "lines", "state", "k", "made", "e", "f"]
abbrev p__law_due : List Str := ["text"]
theorem sc__law_due : FnScope n__law_due p__law_due (defScope s__law_due) := ⟨rfl, rfl, rfl, by decide +kernel, rfl, by decide +kernel, by decide +kernel⟩
abbrev s__law_told : Stmt := topS 104
abbrev n__law_told : List Str := ["text", "made", "e", "f"]
abbrev p__law_told : List Str := ["text"]
theorem sc__law_told : FnScope n__law_told p__law_told (defScope s__law_told) := ⟨rfl, rfl, rfl, by decide +kernel, rfl, by decide +kernel, by decide +kernel⟩
abbrev s__law_sketch : Stmt := topS 105
abbrev n__law_sketch : List Str := ["p", "functions", "f", "st", "x", "T"]
abbrev p__law_sketch : List Str := ["p"]
theorem sc__law_sketch : FnScope n__law_sketch p__law_sketch (defScope s__law_sketch) := ⟨rfl, rfl, rfl, by decide +kernel, rfl, by decide +kernel, by decide +kernel⟩
abbrev s__law_depth : Stmt := topS 106
abbrev n__law_depth : List Str := ["st"]
abbrev p__law_depth : List Str := ["st"]
theorem sc__law_depth : FnScope n__law_depth p__law_depth (defScope s__law_depth) := ⟨rfl, rfl, rfl, by decide +kernel, rfl, by decide +kernel, by decide +kernel⟩
abbrev s__law_changed : Stmt := topS 107
abbrev n__law_changed : List Str := ["box", "text", "at", "signs", "sign", "kind"]
abbrev p__law_changed : List Str := ["box", "text"]
theorem sc__law_changed : FnScope n__law_changed p__law_changed (defScope s__law_changed) := ⟨rfl, rfl, rfl, by decide +kernel, rfl, by decide +kernel, by decide +kernel⟩
abbrev s_law : Stmt := topS 108
abbrev n_law : List Str := ["script", "box", "turn", "p", "text", "change", "other", "f"]
abbrev p_law : List Str := ["script"]
theorem sc_law : FnScope n_law p_law (defScope s_law) := ⟨rfl, rfl, rfl, by decide +kernel, rfl, by decide +kernel, by decide +kernel⟩
/-- where each def stands, what names mean -/
structure Df (K : PySem.W.Frag) (mg : Str → Option Value) (x : Str) (st : Stmt) (ps : List Str) (a : Addr) (fd : FuncData) : Prop where
  F : Fun K x x st a fd
  b : Binds K fd ps []
  m : mg x = some (.ref a)
structure Dm (K : PySem.W.Frag) (x q : Str) (st : Stmt) (ps : List Str) (a : Addr) (fd : FuncData) : Prop where
  F : Fun K x q st a fd
  b : Binds K fd ps []
structure Ist (K : PySem.W.Frag) (C : Addr) : Prop where
  ha : PySem.W.findIn K (.ref C) "__class__" = some (some (.builtin "object.__class__"))
  hn : PySem.W.specialIn K (.builtin "object.__class__") "__get__" = some (some (.builtin "getset_descriptor.__get__"))
  ht : PySem.W.takesIn K (.builtin "object.__class__") = some true
  hm : PySem.W.mroIn K C (.type "object") = some true
set_option genInjectivity false in
set_option genSizeOf false in
structure Tx (K : PySem.W.Frag) (mg : Str → Option Value) where
  a_RightsError_init : Addr
  e_RightsError_init : FuncData
  d_RightsError_init : Dm K "__init__" "RightsError.__init__" s_RightsError_init p_RightsError_init a_RightsError_init e_RightsError_init
  a_TextError_init : Addr
  e_TextError_init : FuncData
  d_TextError_init : Dm K "__init__" "TextError.__init__" s_TextError_init p_TextError_init a_TextError_init e_TextError_init
  a_is_right : Addr
  e_is_right : FuncData
  d_is_right : Df K mg "is_right" s_is_right p_is_right a_is_right e_is_right
  a_is_type : Addr
  e_is_type : FuncData
  d_is_type : Df K mg "is_type" s_is_type p_is_type a_is_type e_is_type
  a_is_value_type : Addr
  e_is_value_type : FuncData
  d_is_value_type : Df K mg "is_value_type" s_is_value_type p_is_value_type a_is_value_type e_is_value_type
  a_is_number : Addr
  e_is_number : FuncData
  d_is_number : Df K mg "is_number" s_is_number p_is_number a_is_number e_is_number
  a_is_name : Addr
  e_is_name : FuncData
  d_is_name : Df K mg "is_name" s_is_name p_is_name a_is_name e_is_name
  a_is_depth : Addr
  e_is_depth : FuncData
  d_is_depth : Df K mg "is_depth" s_is_depth p_is_depth a_is_depth e_is_depth
  a_is_place : Addr
  e_is_place : FuncData
  d_is_place : Df K mg "is_place" s_is_place p_is_place a_is_place e_is_place
  a_first_word : Addr
  e_first_word : FuncData
  d_first_word : Df K mg "first_word" s_first_word p_first_word a_first_word e_first_word
  a_is_source : Addr
  e_is_source : FuncData
  d_is_source : Df K mg "is_source" s_is_source p_is_source a_is_source e_is_source
  a_is_source_list : Addr
  e_is_source_list : FuncData
  d_is_source_list : Df K mg "is_source_list" s_is_source_list p_is_source_list a_is_source_list e_is_source_list
  a_is_declared : Addr
  e_is_declared : FuncData
  d_is_declared : Df K mg "is_declared" s_is_declared p_is_declared a_is_declared e_is_declared
  a_is_statement : Addr
  e_is_statement : FuncData
  d_is_statement : Df K mg "is_statement" s_is_statement p_is_statement a_is_statement e_is_statement
  a_Function_init : Addr
  e_Function_init : FuncData
  d_Function_init : Dm K "__init__" "Function.__init__" s_Function_init p_Function_init a_Function_init e_Function_init
  a_Program_init : Addr
  e_Program_init : FuncData
  d_Program_init : Dm K "__init__" "Program.__init__" s_Program_init p_Program_init a_Program_init e_Program_init
  a_copied : Addr
  e_copied : FuncData
  d_copied : Df K mg "copied" s_copied p_copied a_copied e_copied
  a_copied_statement : Addr
  e_copied_statement : FuncData
  d_copied_statement : Df K mg "copied_statement" s_copied_statement p_copied_statement a_copied_statement e_copied_statement
  a_copied_statements : Addr
  e_copied_statements : FuncData
  d_copied_statements : Df K mg "copied_statements" s_copied_statements p_copied_statements a_copied_statements e_copied_statements
  a_copied_function : Addr
  e_copied_function : FuncData
  d_copied_function : Df K mg "copied_function" s_copied_function p_copied_function a_copied_function e_copied_function
  a_copied_functions : Addr
  e_copied_functions : FuncData
  d_copied_functions : Df K mg "copied_functions" s_copied_functions p_copied_functions a_copied_functions e_copied_functions
  a_is_program : Addr
  e_is_program : FuncData
  d_is_program : Df K mg "is_program" s_is_program p_is_program a_is_program e_is_program
  a_is_function : Addr
  e_is_function : FuncData
  d_is_function : Df K mg "is_function" s_is_function p_is_function a_is_function e_is_function
  a_are_statements : Addr
  e_are_statements : FuncData
  d_are_statements : Df K mg "are_statements" s_are_statements p_are_statements a_are_statements e_are_statements
  a_declared : Addr
  e_declared : FuncData
  d_declared : Df K mg "declared" s_declared p_declared a_declared e_declared
  a_declared_by_lets : Addr
  e_declared_by_lets : FuncData
  d_declared_by_lets : Df K mg "declared_by_lets" s_declared_by_lets p_declared_by_lets a_declared_by_lets e_declared_by_lets
  a_all_names : Addr
  e_all_names : FuncData
  d_all_names : Df K mg "all_names" s_all_names p_all_names a_all_names e_all_names
  a_all_kinds : Addr
  e_all_kinds : FuncData
  d_all_kinds : Df K mg "all_kinds" s_all_kinds p_all_kinds a_all_kinds e_all_kinds
  a_are_different : Addr
  e_are_different : FuncData
  d_are_different : Df K mg "are_different" s_are_different p_are_different a_are_different e_are_different
  a_are_of_one_kind : Addr
  e_are_of_one_kind : FuncData
  d_are_of_one_kind : Df K mg "are_of_one_kind" s_are_of_one_kind p_are_of_one_kind a_are_of_one_kind e_are_of_one_kind
  a_all_calls_fit : Addr
  e_all_calls_fit : FuncData
  d_all_calls_fit : Df K mg "all_calls_fit" s_all_calls_fit p_all_calls_fit a_all_calls_fit e_all_calls_fit
  a_calls_fit : Addr
  e_calls_fit : FuncData
  d_calls_fit : Df K mg "calls_fit" s_calls_fit p_calls_fit a_calls_fit e_calls_fit
  a_text_of : Addr
  e_text_of : FuncData
  d_text_of : Df K mg "text_of" s_text_of p_text_of a_text_of e_text_of
  a_declared_text : Addr
  e_declared_text : FuncData
  d_declared_text : Df K mg "declared_text" s_declared_text p_declared_text a_declared_text e_declared_text
  a_place_text : Addr
  e_place_text : FuncData
  d_place_text : Df K mg "place_text" s_place_text p_place_text a_place_text e_place_text
  a_source_text : Addr
  e_source_text : FuncData
  d_source_text : Df K mg "source_text" s_source_text p_source_text a_source_text e_source_text
  a_statement_text : Addr
  e_statement_text : FuncData
  d_statement_text : Df K mg "statement_text" s_statement_text p_statement_text a_statement_text e_statement_text
  a_consists_of : Addr
  e_consists_of : FuncData
  d_consists_of : Df K mg "consists_of" s_consists_of p_consists_of a_consists_of e_consists_of
  a_name_read : Addr
  e_name_read : FuncData
  d_name_read : Df K mg "name_read" s_name_read p_name_read a_name_read e_name_read
  a_number_read : Addr
  e_number_read : FuncData
  d_number_read : Df K mg "number_read" s_number_read p_number_read a_number_read e_number_read
  a_kind_read : Addr
  e_kind_read : FuncData
  d_kind_read : Df K mg "kind_read" s_kind_read p_kind_read a_kind_read e_kind_read
  a_declared_read : Addr
  e_declared_read : FuncData
  d_declared_read : Df K mg "declared_read" s_declared_read p_declared_read a_declared_read e_declared_read
  a_place_read : Addr
  e_place_read : FuncData
  d_place_read : Df K mg "place_read" s_place_read p_place_read a_place_read e_place_read
  a_source_read : Addr
  e_source_read : FuncData
  d_source_read : Df K mg "source_read" s_source_read p_source_read a_source_read e_source_read
  a_called_read : Addr
  e_called_read : FuncData
  d_called_read : Df K mg "called_read" s_called_read p_called_read a_called_read e_called_read
  a_head_read : Addr
  e_head_read : FuncData
  d_head_read : Df K mg "head_read" s_head_read p_head_read a_head_read e_head_read
  a_let_read : Addr
  e_let_read : FuncData
  d_let_read : Df K mg "let_read" s_let_read p_let_read a_let_read e_let_read
  a_put_read : Addr
  e_put_read : FuncData
  d_put_read : Df K mg "put_read" s_put_read p_put_read a_put_read e_put_read
  a_call_read : Addr
  e_call_read : FuncData
  d_call_read : Df K mg "call_read" s_call_read p_call_read a_call_read e_call_read
  a_statement_read : Addr
  e_statement_read : FuncData
  d_statement_read : Df K mg "statement_read" s_statement_read p_statement_read a_statement_read e_statement_read
  a_Reader_init : Addr
  e_Reader_init : FuncData
  d_Reader_init : Dm K "__init__" "Reader.__init__" s_Reader_init p_Reader_init a_Reader_init e_Reader_init
  a_Reader_takes : Addr
  e_Reader_takes : FuncData
  d_Reader_takes : Dm K "takes" "Reader.takes" s_Reader_takes p_Reader_takes a_Reader_takes e_Reader_takes
  a_Reader_takes_head : Addr
  e_Reader_takes_head : FuncData
  d_Reader_takes_head : Dm K "_takes_head" "Reader._takes_head" s_Reader_takes_head p_Reader_takes_head a_Reader_takes_head e_Reader_takes_head
  a_Reader_takes_in_function : Addr
  e_Reader_takes_in_function : FuncData
  d_Reader_takes_in_function : Dm K "_takes_in_function" "Reader._takes_in_function" s_Reader_takes_in_function p_Reader_takes_in_function a_Reader_takes_in_function e_Reader_takes_in_function
  a_takes_statement : Addr
  e_takes_statement : FuncData
  d_takes_statement : Df K mg "takes_statement" s_takes_statement p_takes_statement a_takes_statement e_takes_statement
  a_read_program : Addr
  e_read_program : FuncData
  d_read_program : Df K mg "read_program" s_read_program p_read_program a_read_program e_read_program
  a__law_cell : Addr
  e__law_cell : FuncData
  d__law_cell : Df K mg "_law_cell" s__law_cell p__law_cell a__law_cell e__law_cell
  a__law_row : Addr
  e__law_row : FuncData
  d__law_row : Df K mg "_law_row" s__law_row p__law_row a__law_row e__law_row
  a__law_draw : Addr
  e__law_draw : FuncData
  d__law_draw : Df K mg "_law_draw" s__law_draw p__law_draw a__law_draw e__law_draw
  a__law_right : Addr
  e__law_right : FuncData
  d__law_right : Df K mg "_law_right" s__law_right p__law_right a__law_right e__law_right
  a__law_rights : Addr
  e__law_rights : FuncData
  d__law_rights : Df K mg "_law_rights" s__law_rights p__law_rights a__law_rights e__law_rights
  a__law_source : Addr
  e__law_source : FuncData
  d__law_source : Df K mg "_law_source" s__law_source p__law_source a__law_source e__law_source
  a__law_statement : Addr
  e__law_statement : FuncData
  d__law_statement : Df K mg "_law_statement" s__law_statement p__law_statement a__law_statement e__law_statement
  a__law_names : Addr
  e__law_names : FuncData
  d__law_names : Df K mg "_law_names" s__law_names p__law_names a__law_names e__law_names
  a__law_function : Addr
  e__law_function : FuncData
  d__law_function : Df K mg "_law_function" s__law_function p__law_function a__law_function e__law_function
  a__law_program : Addr
  e__law_program : FuncData
  d__law_program : Df K mg "_law_program" s__law_program p__law_program a__law_program e__law_program
  a__law_made : Addr
  e__law_made : FuncData
  d__law_made : Df K mg "_law_made" s__law_made p__law_made a__law_made e__law_made
  a__law_show_type : Addr
  e__law_show_type : FuncData
  d__law_show_type : Df K mg "_law_show_type" s__law_show_type p__law_show_type a__law_show_type e__law_show_type
  a__law_show_source : Addr
  e__law_show_source : FuncData
  d__law_show_source : Df K mg "_law_show_source" s__law_show_source p__law_show_source a__law_show_source e__law_show_source
  a__law_show : Addr
  e__law_show : FuncData
  d__law_show : Df K mg "_law_show" s__law_show p__law_show a__law_show e__law_show
  a__law_text : Addr
  e__law_text : FuncData
  d__law_text : Df K mg "_law_text" s__law_text p__law_text a__law_text e__law_text
  a__law_is_name : Addr
  e__law_is_name : FuncData
  d__law_is_name : Df K mg "_law_is_name" s__law_is_name p__law_is_name a__law_is_name e__law_is_name
  a__law_number : Addr
  e__law_number : FuncData
  d__law_number : Df K mg "_law_number" s__law_number p__law_number a__law_number e__law_number
  a__law_type : Addr
  e__law_type : FuncData
  d__law_type : Df K mg "_law_type" s__law_type p__law_type a__law_type e__law_type
  a__law_place : Addr
  e__law_place : FuncData
  d__law_place : Df K mg "_law_place" s__law_place p__law_place a__law_place e__law_place
  a__law_source_of : Addr
  e__law_source_of : FuncData
  d__law_source_of : Df K mg "_law_source_of" s__law_source_of p__law_source_of a__law_source_of e__law_source_of
  a__law_parted : Addr
  e__law_parted : FuncData
  d__law_parted : Df K mg "_law_parted" s__law_parted p__law_parted a__law_parted e__law_parted
  a__law_let : Addr
  e__law_let : FuncData
  d__law_let : Df K mg "_law_let" s__law_let p__law_let a__law_let e__law_let
  a__law_put : Addr
  e__law_put : FuncData
  d__law_put : Df K mg "_law_put" s__law_put p__law_put a__law_put e__law_put
  a__law_call : Addr
  e__law_call : FuncData
  d__law_call : Df K mg "_law_call" s__law_call p__law_call a__law_call e__law_call
  a__law_statement_of : Addr
  e__law_statement_of : FuncData
  d__law_statement_of : Df K mg "_law_statement_of" s__law_statement_of p__law_statement_of a__law_statement_of e__law_statement_of
  a__law_def : Addr
  e__law_def : FuncData
  d__law_def : Df K mg "_law_def" s__law_def p__law_def a__law_def e__law_def
  a__law_taken : Addr
  e__law_taken : FuncData
  d__law_taken : Df K mg "_law_taken" s__law_taken p__law_taken a__law_taken e__law_taken
  a__law_due : Addr
  e__law_due : FuncData
  d__law_due : Df K mg "_law_due" s__law_due p__law_due a__law_due e__law_due
  a__law_told : Addr
  e__law_told : FuncData
  d__law_told : Df K mg "_law_told" s__law_told p__law_told a__law_told e__law_told
  a__law_sketch : Addr
  e__law_sketch : FuncData
  d__law_sketch : Df K mg "_law_sketch" s__law_sketch p__law_sketch a__law_sketch e__law_sketch
  a__law_depth : Addr
  e__law_depth : FuncData
  d__law_depth : Df K mg "_law_depth" s__law_depth p__law_depth a__law_depth e__law_depth
  a__law_changed : Addr
  e__law_changed : FuncData
  d__law_changed : Df K mg "_law_changed" s__law_changed p__law_changed a__law_changed e__law_changed
  C_RightsError : Addr
  g_RightsError : mg "RightsError" = some (.ref C_RightsError)
  n_RightsError_reason : PySem.W.findIn K (.ref C_RightsError) "reason" = some none
  o_RightsError : OexC K C_RightsError
  x_RightsError : XfC K C_RightsError
  cr_RightsError : ClX.CRead K C_RightsError (.type "type")
  ci_RightsError : ClX.CVal K C_RightsError (.type "type") "__init__" (.ref a_RightsError_init) (.ref a_RightsError_init)
  i_RightsError : PySem.W.findIn K (.ref C_RightsError) "__init__" = some (some (.ref a_RightsError_init))
  t_RightsError : PySem.W.typeIn K (.ref a_RightsError_init) = some (.type "function")
  s_RightsError : PySem.W.exmOne K (.ref C_RightsError) (.ref C_RightsError) = some true
  C_TextError : Addr
  g_TextError : mg "TextError" = some (.ref C_TextError)
  n_TextError_line : PySem.W.findIn K (.ref C_TextError) "line" = some none
  n_TextError_reason : PySem.W.findIn K (.ref C_TextError) "reason" = some none
  o_TextError : OexC K C_TextError
  x_TextError : XfC K C_TextError
  i_TextError : PySem.W.findIn K (.ref C_TextError) "__init__" = some (some (.ref a_TextError_init))
  t_TextError : PySem.W.typeIn K (.ref a_TextError_init) = some (.type "function")
  s_TextError : PySem.W.exmOne K (.ref C_TextError) (.ref C_TextError) = some true
  C_Function : Addr
  g_Function : mg "Function" = some (.ref C_Function)
  n_Function_name : PySem.W.findIn K (.ref C_Function) "name" = some none
  n_Function_params : PySem.W.findIn K (.ref C_Function) "params" = some none
  n_Function_body : PySem.W.findIn K (.ref C_Function) "body" = some none
  c_Function : Cls K C_Function
  k_Function : Mk K C_Function a_Function_init
  i_Function : Ist K C_Function
  C_Program : Addr
  g_Program : mg "Program" = some (.ref C_Program)
  n_Program_functions : PySem.W.findIn K (.ref C_Program) "functions" = some none
  n_Program_statements : PySem.W.findIn K (.ref C_Program) "statements" = some none
  c_Program : Cls K C_Program
  k_Program : Mk K C_Program a_Program_init
  i_Program : Ist K C_Program
  C_Reader : Addr
  g_Reader : mg "Reader" = some (.ref C_Reader)
  n_Reader_functions : PySem.W.findIn K (.ref C_Reader) "functions" = some none
  n_Reader_statements : PySem.W.findIn K (.ref C_Reader) "statements" = some none
  n_Reader_head : PySem.W.findIn K (.ref C_Reader) "head" = some none
  n_Reader_body : PySem.W.findIn K (.ref C_Reader) "body" = some none
  c_Reader : Cls K C_Reader
  k_Reader : Mk K C_Reader a_Reader_init
  i_Reader : Ist K C_Reader
  h_Reader_takes : Meth K C_Reader "takes" a_Reader_takes
  h_Reader_takes_head : Meth K C_Reader "_takes_head" a_Reader_takes_head
  h_Reader_takes_in_function : Meth K C_Reader "_takes_in_function" a_Reader_takes_in_function
  vV : PySem.W.findCls K (.type "ValueError") (.type "type") "__init__" = some (.val (.builtin "ValueError.__init__"))
  a_RIGHTS : Addr
  m_RIGHTS : mg "RIGHTS" = some (.ref a_RIGHTS)
  t_RIGHTS : ∀ H, SqT K H a_RIGHTS [.str "rw", .str "r", .str "w", .str "-"]
  k_MOST_RIGHTS : Tok
  m_MOST_RIGHTS : mg "MOST_RIGHTS" = some (.int 6 k_MOST_RIGHTS)
  k_SIGNS : Tok
  m_SIGNS : mg "SIGNS" = some (.str "abcdefghijklmnopqrstuvwxyz" k_SIGNS)
  k_MOST_SIGNS : Tok
  m_MOST_SIGNS : mg "MOST_SIGNS" = some (.int 8 k_MOST_SIGNS)
  k_MOST_STARS : Tok
  m_MOST_STARS : mg "MOST_STARS" = some (.int 5 k_MOST_STARS)
  k_MOST_DEPTH : Tok
  m_MOST_DEPTH : mg "MOST_DEPTH" = some (.int 5 k_MOST_DEPTH)
  k_MOST_NUMBER : Tok
  m_MOST_NUMBER : mg "MOST_NUMBER" = some (.int 1000 k_MOST_NUMBER)
  k_MOST_FUNCTIONS : Tok
  m_MOST_FUNCTIONS : mg "MOST_FUNCTIONS" = some (.int 4 k_MOST_FUNCTIONS)
  k_MOST_PARAMS : Tok
  m_MOST_PARAMS : mg "MOST_PARAMS" = some (.int 4 k_MOST_PARAMS)
  k_MOST_IN_BODY : Tok
  m_MOST_IN_BODY : mg "MOST_IN_BODY" = some (.int 12 k_MOST_IN_BODY)
  k_MOST_STATEMENTS : Tok
  m_MOST_STATEMENTS : mg "MOST_STATEMENTS" = some (.int 40 k_MOST_STATEMENTS)
  k_DIGITS : Tok
  m_DIGITS : mg "DIGITS" = some (.str "0123456789" k_DIGITS)
  k_MOST_DIGITS : Tok
  m_MOST_DIGITS : mg "MOST_DIGITS" = some (.int 9 k_MOST_DIGITS)
  b_ValueError : mg "ValueError" = none
  b_str : mg "str" = none
  b_type : mg "type" = none
  b_len : mg "len" = none
  b_all : mg "all" = none
  b_tuple : mg "tuple" = none
  b_int : mg "int" = none
  b_list : mg "list" = none
  b_isinstance : mg "isinstance" = none
  b_set : mg "set" = none
  b_enumerate : mg "enumerate" = none
  b_range : mg "range" = none
  b_abs : mg "abs" = none
  b_min : mg "min" = none
local macro_rules | `(tactic| walk_at "s") => `(tactic| with_reducible first
  | (refine w_var (v := ?vv) ?hh ?_; (case hh => with_unfolding_all exact rfl))
  | refine w_cons ?_
  | refine w_c ?_
  | refine w_nil ?_
  | refine w_op ?_
  | refine w_seq ?_
  | refine w_name ?_
  | refine w_ret ?_
  | refine w_test ?_
  | refine w_callN ?_
  | walk_at "s1")
local macro_rules | `(tactic| walk_at "s1") => `(tactic| with_reducible first
  | refine w_if ?_
  | refine w_CB ?_
  | refine w_asg ?_
  | refine w_next ?_
  | refine w_getF ?_
  | refine w_eqS ?_
  | refine w_gcons ?_
  | refine w_I0 ?_
  | refine w_tup ?_
  | refine iteT ?_
  | refine w_lst ?_
  | refine w_drop ?_
  | walk_at "s2")
local macro_rules | `(tactic| walk_at "s2") => `(tactic| with_reducible first
  | refine w_brk ?_
  | refine w_cont ?_
  | refine w_un ?_
  | refine w_neg ?_
  | refine w_eqI ?_
  | refine w_neI ?_
  | refine w_neS ?_
  | refine w_eqB ?_
  | refine w_neB ?_
  | refine w_B ?_
  | refine w_and ?_
  | refine w_or ?_
  | refine w_not ?_
  | refine w_andV ?_
  | refine w_orV ?_
  | refine w_notV ?_
  | refine w_ifE ?_
  | refine w_yes ?_
  | refine w_BM ?_
  | refine w_BMT ?_
  | refine w_BM0 ?_
  | refine w_noPart ?_
  | refine w_part ?_
  | refine w_sl ?_
  | refine w_subG ?_
  | refine w_gnil ?_
  | refine w_for ?_
  | refine w_lc ?_
  | refine w_iR1 ?_
  | refine w_iR2 ?_
  | refine w_iL ?_
  | refine w_iT ?_
  | refine w_iS ?_
  | (show ∃ k, V.bl _ = V.bl k ∧ _; refine ⟨_, rfl, ?_⟩)
  | (show ∃ k, V.int _ = V.int k ∧ _; refine ⟨_, rfl, ?_⟩)
  | refine iteF ?_
  | refine iteNT ?_
  | refine iteNF ?_
  | refine r_S ?_
  | refine c_S ?_
  | refine a_abs ?_
  | refine a_intI ?_
  | refine a_intB ?_
  | refine w_par ?_
  | refine w_dK ?_
  | refine w_chain ?_
  | (show ∃ v w, [_, _] = [v, w] ∧ _; refine ⟨_, _, rfl, ?_⟩)
  | refine w_setF ?_
  | refine w_newI ?_
  | refine w_callS ?_
  | refine w_getD1 ?_
  | refine w_putD ?_
  | refine w_veI ?_
  | refine w_ostI ?_
  | refine w_mkO ?_
  | refine w_newS ?_
  | refine w_xf ?_
  | refine w_dget ?_
  | refine w_din ?_
  | refine w_dnin ?_
  | refine w_iEn ?_
  | refine w_iZp ?_
  | refine w_dc ?_
  | refine w_meth ?_
  | refine w_methA ?_
  | refine w_aug ?_
  | refine w_lcX ?_
  | refine a_isNn ?_
  | refine a_isNr ?_
  | refine a_notNn ?_
  | refine a_notNr ?_
  | refine a_isTy ?_
  | refine a_notTy ?_
  | refine a_isBl ?_
  | refine a_notBl ?_
  | refine a_isNs ?_
  | refine a_isNi ?_
  | refine a_notNs ?_
  | refine a_notNi ?_
  | refine w_M1 ?_
  | refine w_BMS ?_
  | refine w_fmt ?_
  | refine w_js ?_
  | refine w_js0 ?_)
local macro_rules | `(tactic| walk_at "r") => `(tactic| repeat walk_at "s")
local macro_rules | `(tactic| walk_at "tr") => `(tactic| first
  | assumption
  | (refine ex_at (H := ?H0) ?h1 ?h2; (case h2 => assumption); (case h1 => walk_at "tr"))
  | (refine ks_at (H := ?H0) (S := ?S0) ?h1 ?h2 ?h3; (case h2 => assumption); (case h3 => walk_at "nin"); (case h1 => walk_at "tr")))
local macro_rules | `(tactic| walk_at "nin") => `(tactic| first
  | exact nin_nil | (refine nin_cons ?h1 ?h2; (case h1 => walk_at "ne"); (case h2 => walk_at "nin")))
local macro_rules | `(tactic| walk_at "ne") => `(tactic| first
  | assumption | exact Ne.symm (by assumption)
  | (refine bx_nb (H := ?H0) (r := ?r0) ?h1 ?h2; (case h2 => assumption); (case h1 => walk_at "bx"))
  | (refine bx_nr (H := ?H0) (b := ?b0) ?h1 ?h2; (case h2 => assumption); (case h1 => walk_at "bx"))
  | (refine Ne.symm (bx_nb (H := ?H0) (r := ?r0) ?h1 ?h2); (case h2 => assumption); (case h1 => walk_at "bx"))
  | (refine ne_old (H := ?H0) (o := ?o0) ?h1 ?h2; (case h2 => assumption); (case h1 => walk_at "tr"))
  | (refine Ne.symm (ne_old (H := ?H0) (o := ?o0) ?h1 ?h2); (case h2 => assumption); (case h1 => walk_at "tr"))
  | exact (Tu.ne (by assumption) (by assumption)).1 | exact (Tu.ne (by assumption) (by assumption)).2
  | (refine bx_rb (H := ?H0) ?h1; (case h1 => walk_at "bx")))
local macro_rules | `(tactic| walk_at "tu") => `(tactic| first
  | assumption
  | (refine Tu.ex (H := ?H0) ?h1 ?h2; (case h2 => assumption); (case h1 => walk_at "tu"))
  | (refine Tu.ks (H := ?H0) (S := ?S0) ?h1 ?h2 ?h3; (case h2 => assumption); (case h3 => walk_at "nin"); (case h1 => walk_at "tu")))
local macro_rules | `(tactic| walk_at "bx") => `(tactic| first
  | assumption
  | (refine bx_ex (H := ?H0) ?h1 ?h2; (case h2 => assumption); (case h1 => walk_at "bx"))
  | (refine bx_ks (H := ?H0) (S := ?S0) ?h1 ?h2 ?h3 ?h4; (case h2 => assumption); (case h3 => walk_at "nin"); (case h4 => walk_at "nin"); (case h1 => walk_at "bx")))
local macro_rules | `(tactic| walk_at "sl") => `(tactic| first
  | assumption | (refine SqL.of ?h1; (case h1 => walk_at "tr"))
  | (refine ex_sl (H := ?H0) ?h1 ?h2; (case h2 => assumption); (case h1 => walk_at "sl"))
  | (refine ks_sl (H := ?H0) (S := ?S0) ?h1 ?h2 ?h3; (case h2 => assumption); (case h3 => walk_at "nin"); (case h1 => walk_at "sl")))
local macro_rules | `(tactic| walk_at "st") => `(tactic| first
  | assumption | (refine Tu.st ?h1; (case h1 => walk_at "tu")) | (refine SqT.of ?h1; (case h1 => walk_at "tr"))
  | (refine ex_st (H := ?H0) ?h1 ?h2; (case h2 => assumption); (case h1 => walk_at "st"))
  | (refine ks_st (H := ?H0) (S := ?S0) ?h1 ?h2 ?h3; (case h2 => assumption); (case h3 => walk_at "nin"); (case h1 => walk_at "st")))
local macro_rules | `(tactic| walk_at "ex") => `(tactic| first
  | exact Ex.refl _ | assumption | (refine Ex.trans (H1 := ?H0) ?h1 ?h2; (case h2 => assumption); (case h1 => walk_at "ex")))
local macro_rules | `(tactic| walk_at "ks") => `(tactic| first
  | exact Ks.refl _ _ | assumption | (refine Ks.of ?h1; (case h1 => assumption)) | (refine Ks.trans (H1 := ?H0) ?h1 ?h2; (case h2 => first | assumption | (refine Ks.of ?h3; (case h3 => assumption))); (case h1 => walk_at "ks")))
local macro_rules | `(tactic| walk_at "dp") => `(tactic| first
  | exact Dp.str _ | exact Dp.int _ | exact Dp.bl _ | exact Dp.non | assumption | exact LsAt.dp (by assumption)
  | (refine dp_ex (H := ?H0) ?h1 ?h2; (case h1 => assumption); (case h2 => walk_at "dp")))
local macro_rules | `(tactic| walk_at "ev") => `(tactic| with_reducible first
  | exact ev_nil | refine ev_cons ?_ ?_ | exact ev_m1 | exact ev_str | exact ev_int | exact ev_bl | exact ev_non
  | (refine ev_tup ?hal ?_ ?hle; (case hal => assumption); (case hle => with_unfolding_all exact Nat.le_of_ble_eq_true rfl))
  | (refine ev_ll (ev_lst ?hal ?_ ?hle); (case hal => assumption); (case hle => with_unfolding_all exact Nat.le_of_ble_eq_true rfl))
  | (refine ev_ll (ev_rep (n := ?nn) ?hal ?_ ?he ?hz); (case he => with_unfolding_all exact rfl); (case hal => assumption); (case hz => with_unfolding_all omega))
  | (refine ev_lst ?hal ?_ ?hle; (case hal => assumption); (case hle => with_unfolding_all exact Nat.le_of_ble_eq_true rfl))
  | (refine ev_lt ?he; (case he => with_unfolding_all exact rfl))
  | (refine ev_let ?hal ?_ ?hs; (case hal => assumption); (case hs => with_unfolding_all first | decide +kernel | rfl))
  | (refine ev_var (v := ?vv) ?he ?hd; (case he => with_unfolding_all exact rfl); (case hd => with_unfolding_all walk_at "dp")))
section
variable {P : Program} {w : World} {K : PySem.W.Frag} {mg : Str → Option Value} {base : Heap}
theorem ok_is_number (T : Tx K mg) : FnOk P w K mg base CX0 1 T.a_is_number T.e_is_number p_is_number (pNum K) := by
  refine T.d_is_number.F.ok sc_is_number (fun vs H Q E h => ?_) (fun cdv A outer s H vs Q E hr h => ?_)
  · obtain ⟨v, d, m, rfl, _⟩ := h
    rfl
  obtain ⟨v, d, m, rfl, hd, q⟩ := h
  refine ⟨_, (pss_one (ps_ret (pe_and (pe_cmpR k_isTy (pe_callTy (typK K) (by rfl) T.b_type (by decide +kernel) (pa_cons (pv 0) pa_nil)) (pe_bltn (v := .ty "int") (by rfl) T.b_int (by decide +kernel) rfl) (nomark _)) (pe_one (pe_chain op_le op_le pe_int (pv 0) (pv 1)))))), ?_⟩
  walk_at "r"
  refine ⟨v, _, rfl, dp_tag hd.1, ?_⟩
  walk_at "r"
  refine ite2 (fun c => ?_) (fun c => ?_)
  · obtain ⟨i, rfl, rfl⟩ := ds_int hd (of_decide_eq_true c)
    walk_at "r"
    refine ite2 (fun c1 => ?_) (fun c1 => ?_)
    · have g := q H (Ex.refl _)
      have e : numD (.int i) m = decide (i ≤ m) := by
        show (decide (0 ≤ i) && decide (i ≤ m)) = _
        rw [c1]
        rfl
      rw [e] at g
      walk_at "r"
      exact g
    · have g := q H (Ex.refl _)
      have e : numD (.int i) m = false := by
        show (decide (0 ≤ i) && decide (i ≤ m)) = _
        rw [Bool.eq_false_iff.mpr c1]
        rfl
      rw [e] at g
      exact g
  · have g := q H (Ex.refl _)
    have e : numD d m = false := by
      cases d <;> first | rfl | exact absurd rfl (not_tag c)
    rw [e] at g
    exact g
theorem ok_is_depth (T : Tx K mg) : FnOk P w K mg base CX0 2 T.a_is_depth T.e_is_depth p_is_depth (pF1 K fun d => numD d 5) := by
  refine T.d_is_depth.F.ok sc_is_depth (fun vs H Q E h => ?_) (fun cdv A outer s H vs Q E hr h => ?_)
  · obtain ⟨v, d, rfl, _⟩ := h
    rfl
  obtain ⟨v, d, rfl, hd, q⟩ := h
  refine ⟨_, (pss_one (ps_ret (pe_call (ok_is_number T) (hr.mono (by omega)) (by rfl) T.d_is_number.m T.d_is_number.F.kp T.d_is_number.b .nil pass0 (pa_cons (pv 0) (pa_cons (pe_glob (v := .int 5) (by rfl) T.m_MOST_DEPTH ⟨_, rfl⟩) pa_nil))))), ?_⟩
  walk_at "r"
  exact ⟨v, d, 5, rfl, hd, q⟩
theorem ok_is_right (T : Tx K mg) : FnOk P w K mg base CX0 1 T.a_is_right T.e_is_right p_is_right (pF1 K irD) := by
  refine T.d_is_right.F.ok sc_is_right (fun vs H Q E h => ?_) (fun cdv A outer s H vs Q E hr h => ?_)
  · obtain ⟨v, d, rfl, _⟩ := h
    rfl
  obtain ⟨v, d, rfl, hd, q⟩ := h
  refine ⟨_, (pss_one (ps_ret (pe_and (pe_cmpR k_isTy (pe_callTy (typK K) (by rfl) T.b_type (by decide +kernel) (pa_cons (pv 0) pa_nil)) (pe_bltn (v := .ty "str") (by rfl) T.b_str (by decide +kernel) rfl) (nomark _)) (pe_one (pe_cmpR (inK K) (pv 0) (pe_glob (v := .ref T.a_RIGHTS) (by rfl) T.m_RIGHTS rfl) (by rfl)))))), ?_⟩
  walk_at "r"
  refine ⟨v, _, rfl, dp_tag hd.1, ?_⟩
  walk_at "r"
  have g := q H (Ex.refl _)
  refine ite2 (fun c => ?_) (fun c => ?_)
  · obtain ⟨x, rfl, rfl, _⟩ := ds_str hd (of_decide_eq_true c)
    walk_at "r"
    exact a_inT (T.t_RIGHTS _) rfl rfl g
  · rw [irD_tag (not_tag c)] at g
    exact g
theorem ok_is_value_type (T : Tx K mg) : FnOk P w K mg base CX0 2 T.a_is_value_type T.e_is_value_type p_is_value_type (pF1 K vtyD) := by
  refine T.d_is_value_type.F.ok sc_is_value_type (fun vs H Q E h => ?_) (fun cdv A outer s H vs Q E hr h => ?_)
  · obtain ⟨v, d, rfl, _⟩ := h
    rfl
  obtain ⟨v, d, rfl, hd, q⟩ := h
  refine ⟨_, (pss_cons (ps_if (PW.pt (pw_or (pt_cmpR k_notTy (pe_callTy (typK K) (by rfl) T.b_type (by decide +kernel) (pa_cons (pv 0) pa_nil)) (pe_bltn (v := .ty "tuple") (by rfl) T.b_tuple (by decide +kernel) rfl) (nomark _)) (pw_or1 (pt_cmpR op_gt (pe_callB (lenK K) (by rfl) T.b_len PySem.boot_len (pa_cons (pv 0) pa_nil)) (pe_glob (v := .int 6) (by rfl) T.m_MOST_RIGHTS ⟨_, rfl⟩) (nomark _))))) (pss_one (ps_ret pe_bl)) pss_nil)
    (pss_one (ps_ret (pe_callB (allK K) (by rfl) T.b_all (by decide +kernel) (pa_cons (pe_lc (own := [("part", 1)]) (g := gName 1) rfl sc_is_value_type.nd  (ptK K (pv 0)) (blkOk_by (own := [("part", 1)]) (N := n_is_value_type) (sc := defScope s_is_value_type) (by decide +kernel)) (fun _ _ _ _ _ => (pg_name (i := 1) sc_is_value_type.nd rfl (Or.inl rfl))) (fun _ _ _ _ _ => pts_nil) (fun _ _ _ _ _ => (pe_call (ok_is_right T) (hr.mono (by omega)) (by rfl) T.d_is_right.m T.d_is_right.F.kp T.d_is_right.b .nil pass0 (pa_cons (pv 1) pa_nil)))) pa_nil))))), ?_⟩
  walk_at "r"
  refine ⟨v, _, rfl, dp_tag hd.1, ?_⟩
  walk_at "r"
  have g := q H (Ex.refl _)
  refine ite2 (fun c => ?_) (fun c => ?_)
  · rw [vtyD_tag (fun z => by rw [z] at c; exact absurd c (by decide))] at g
    walk_at "r"
    exact g
  · obtain ⟨p, xs, ds, rfl, rfl, hT, hD, hs, hl⟩ := ds_tup hd (Decidable.byContradiction fun z => c (by rw [decide_eq_false z]; rfl))
    change Q (.bl (vtD ds)) H at g
    walk_at "r"
    refine a_lenT hT ?_
    walk_at "r"
    refine ite2 (fun c => ?_) (fun c => ?_)
    · have := of_decide_eq_true c
      rw [vt_nil ds (by omega)] at g
      walk_at "r"
      exact g
    · have h6 : ds.length ≤ 6 := by
        have := of_decide_eq_false (nf c)
        omega
      walk_at "r"
      refine c_T hT ?_
      refine cp_tup (xs := xs) (fun l k h => Ex H h ∧ h l = some (.lst (((ds.take k).map irD).map V.bl))) (fun l n => ⟨Ex.new n, upd_same⟩) (fun l k h _ _ g => ex_st hT g.1) ?_ ?_
      · rintro l k x h nl hx ⟨e, f⟩
        obtain ⟨d, hd', dx⟩ := ds_at hD hs hx
        have hk := at_lt hx
        walk_at "r"
        refine ⟨rfl, ?_⟩
        walk_at "r"
        refine ⟨x, d, rfl, ds_ex dx e, fun H1 e1 => ?_⟩
        refine ⟨_, e1 _ _ f, sz_lt (by rw [bools_len]; omega), (e.trans e1).mut nl, ?_⟩
        rw [upd_same, bools_snoc irD hd']
      · rintro l h nl ⟨e, f⟩
        walk_at "r"
        rw [hl, List.take_length] at f
        refine ⟨l, _, rfl, SqL.of f, ?_⟩
        rw [bools_all, ← vt_all ds h6]
        exact q _ e
theorem ok_is_type (T : Tx K mg) : FnOk P w K mg base CX0 3 T.a_is_type T.e_is_type p_is_type (pF1 K typD) := by
  refine T.d_is_type.F.ok sc_is_type (fun vs H Q E h => ?_) (fun cdv A outer s H vs Q E hr h => ?_)
  · obtain ⟨v, d, rfl, _⟩ := h
    rfl
  obtain ⟨v, d, rfl, hd, q⟩ := h
  refine ⟨_, (pss_one (ps_ret (pe_and (pe_call (ok_is_value_type T) (hr.mono (by omega)) (by rfl) T.d_is_value_type.m T.d_is_value_type.F.kp T.d_is_value_type.b .nil pass0 (pa_cons (pv 0) pa_nil)) (pe_one (pe_cmpR op_gt (pe_callB (lenK K) (by rfl) T.b_len PySem.boot_len (pa_cons (pv 0) pa_nil)) pe_int (nomark _)))))), ?_⟩
  walk_at "r"
  refine ⟨v, d, rfl, hd, fun H1 e1 => ?_⟩
  have g := q H1 e1
  rw [typD_eq] at g
  walk_at "r"
  refine ite2 (fun c => ?_) (fun c => ?_)
  · obtain ⟨p, xs, ds, rfl, rfl, hT, hD, hs, hl⟩ := ds_tup hd (Decidable.byContradiction fun z => by rw [vtyD_tag z] at c; cases c)
    walk_at "r"
    refine a_lenT (ex_st hT e1) ?_
    walk_at "r"
    rw [c, Bool.true_and] at g
    have e2 : decide (0 < lenD (.tuple ds)) = decide ((0 : Int) < (xs.length : Int)) := by
      rw [hl]
      show decide (0 < ds.length) = _
      by_cases z : 0 < ds.length
      · rw [decide_eq_true z, decide_eq_true (by omega)]
      · rw [decide_eq_false z, decide_eq_false (by omega)]
    rw [e2] at g
    exact g
  · rw [nf c] at g
    exact g
theorem ok_is_name (T : Tx K mg) : FnOk P w K mg base CX0 1 T.a_is_name T.e_is_name p_is_name (pF1 K nameD) := by
  refine T.d_is_name.F.ok sc_is_name (fun vs H Q E h => ?_) (fun cdv A outer s H vs Q E hr h => ?_)
  · obtain ⟨v, d, rfl, _⟩ := h
    rfl
  obtain ⟨v, d, rfl, hd, q⟩ := h
  refine ⟨_, (pss_cons (ps_if (PW.pt (pw_or (pt_cmpR k_notTy (pe_callTy (typK K) (by rfl) T.b_type (by decide +kernel) (pa_cons (pv 0) pa_nil)) (pe_bltn (v := .ty "str") (by rfl) T.b_str (by decide +kernel) rfl) (nomark _)) (pw_or (pt_cmpR op_eq (pv 0) pe_str (nomark _)) (pw_or1 (pt_not (pt_chain op_le op_le pe_int (pe_callB k_lenS (by rfl) T.b_len PySem.boot_len (pa_cons (pv 0) pa_nil)) (pe_glob (v := .int 8) (by rfl) T.m_MOST_SIGNS ⟨_, rfl⟩))))))) (pss_one (ps_ret pe_bl)) pss_nil)
    (pss_one (ps_ret (pe_callB (allK K) (by rfl) T.b_all (by decide +kernel) (pa_cons (pe_lc (own := [("sign", 1)]) (g := gName 1) rfl sc_is_name.nd  (pi_str (pv 0)) (blkOk_by (own := [("sign", 1)]) (N := n_is_name) (sc := defScope s_is_name) (by decide +kernel)) (fun _ _ _ _ _ => (pg_name (i := 1) sc_is_name.nd rfl (Or.inl rfl))) (fun _ _ _ _ _ => pts_nil) (fun _ _ _ _ _ => (pe_cmpR k_inS (pv 1) (pe_glob (v := .str "abcdefghijklmnopqrstuvwxyz") (by rfl) T.m_SIGNS ⟨_, rfl⟩) (by rfl)))) pa_nil))))), ?_⟩
  walk_at "r"
  refine ⟨v, _, rfl, dp_tag hd.1, ?_⟩
  walk_at "r"
  have g := q H (Ex.refl _)
  refine ite2 (fun c => ?_) (fun c => ?_)
  · rw [nameD_tag (fun z => by rw [z] at c; exact absurd c (by decide))] at g
    walk_at "r"
    exact g
  · obtain ⟨x, rfl, rfl, hl⟩ := ds_str hd (Decidable.byContradiction fun z => c (by rw [decide_eq_false z]; rfl))
    change Q (.bl (!decide (x = "null") && (decide (1 ≤ x.length) && decide (x.length ≤ 8)) && x.cps.toList.all sgOk)) H at g
    walk_at "r"
    refine ite2 (fun c1 => ?_) (fun c1 => ?_)
    · walk_at "r"
      rw [c1] at g
      exact g
    · rw [nf c1] at g
      walk_at "r"
      refine a_lenS hl ?_
      walk_at "r"
      refine ite2 (fun c2 => ?_) (fun c2 => ?_)
      · walk_at "r"
        have c2' := of_decide_eq_true c2
        rw [decide_eq_true (show 1 ≤ x.length by omega)] at g
        refine ite2 (fun c3 => ?_) (fun c3 => ?_)
        · have c3' : ¬ x.length ≤ 8 := fun z => by
            rw [decide_eq_true (show (x.length : Int) ≤ 8 by omega)] at c3
            cases c3
          rw [decide_eq_false c3'] at g
          walk_at "r"
          exact g
        · have c3' : x.length ≤ 8 := Decidable.byContradiction fun z => c3 (by
            rw [decide_eq_false (show ¬ (x.length : Int) ≤ 8 by omega)]
            rfl)
          rw [decide_eq_true c3'] at g
          change Q (.bl (x.cps.toList.all sgOk)) H at g
          walk_at "r"
          refine cp_chars (z := x) (fun l k h => Ex H h ∧ h l = some (.lst (((x.cps.toList.take k).map sgOk).map V.bl))) (fun l n => ⟨Ex.new n, upd_same⟩) ?_ ?_
          · rintro l k ch h nl hx ⟨e, f⟩
            have hk : k < x.length := (Array.getElem?_eq_some_iff.mp hx).1
            walk_at "r"
            refine ⟨rfl, ?_⟩
            walk_at "r"
            refine a_inS (b := sgOk ch) rfl ?_
            refine ⟨_, f, sz_lt (by rw [List.length_map, List.length_map, List.length_take]; omega), e.mut nl, ?_⟩
            rw [upd_same, chars_snoc hx]
          · rintro l h nl ⟨e, f⟩
            walk_at "r"
            have e3 : x.cps.toList.take x.cps.size = x.cps.toList := List.take_of_length_le (by simp)
            rw [e3] at f
            refine ⟨l, _, rfl, SqL.of f, ?_⟩
            have e4 : (x.cps.toList.map sgOk).all id = x.cps.toList.all sgOk := by
              rw [List.all_map]
              rfl
            rw [e4]
            have g2 := q h e
            change Q (.bl (!decide (x = "null") && (decide (1 ≤ x.length) && decide (x.length ≤ 8)) && x.cps.toList.all sgOk)) h at g2
            rw [nf c1, decide_eq_true (show 1 ≤ x.length by omega), decide_eq_true c3'] at g2
            exact g2
      · rw [decide_eq_false (fun z : 1 ≤ x.length => c2 (decide_eq_true (by omega)))] at g
        walk_at "r"
        exact g
theorem ok_is_place (T : Tx K mg) : FnOk P w K mg base CX0 2 T.a_is_place T.e_is_place p_is_place (pF1 K placeD) := by
  refine T.d_is_place.F.ok sc_is_place (fun vs H Q E h => ?_) (fun cdv A outer s H vs Q E hr h => ?_)
  · obtain ⟨v, d, rfl, _⟩ := h
    rfl
  obtain ⟨v, d, rfl, hd, q⟩ := h
  refine ⟨_, (pss_cons (ps_if (PW.pt (pw_or (pt_cmpR k_notTy (pe_callTy (typK K) (by rfl) T.b_type (by decide +kernel) (pa_cons (pv 0) pa_nil)) (pe_bltn (v := .ty "tuple") (by rfl) T.b_tuple (by decide +kernel) rfl) (nomark _)) (pw_or1 (pt_cmpR op_ne (pe_callB (lenK K) (by rfl) T.b_len PySem.boot_len (pa_cons (pv 0) pa_nil)) pe_int (nomark _))))) (pss_one (ps_ret pe_bl)) pss_nil)
    (pss_one (ps_ret (pe_and (pe_call (ok_is_name T) (hr.mono (by omega)) (by rfl) T.d_is_name.m T.d_is_name.F.kp T.d_is_name.b .nil pass0 (pa_cons (pe_ix (ixT K) (pv 0) pe_int (fun _ _ => rfl)) pa_nil)) (pe_one (pe_call (ok_is_number T) (hr.mono (by omega)) (by rfl) T.d_is_number.m T.d_is_number.F.kp T.d_is_number.b .nil pass0 (pa_cons (pe_ix (ixT K) (pv 0) pe_int (fun _ _ => rfl)) (pa_cons (pe_glob (v := .int 5) (by rfl) T.m_MOST_STARS ⟨_, rfl⟩) pa_nil)))))))), ?_⟩
  walk_at "r"
  refine ⟨v, _, rfl, dp_tag hd.1, ?_⟩
  walk_at "r"
  have g := q H (Ex.refl _)
  refine ite2 (fun c => ?_) (fun c => ?_)
  · rw [placeD_tag (fun z => by rw [z] at c; exact absurd c (by decide))] at g
    walk_at "r"
    exact g
  · obtain ⟨p, xs, ds, rfl, rfl, hT, hD, hs, hl⟩ := ds_tup hd (Decidable.byContradiction fun z => c (by rw [decide_eq_false z]; rfl))
    have e0 : placeD (.tuple ds) = (decide (ds.length = 2) && (nameD (nthD (.tuple ds) 0) && numD (nthD (.tuple ds) 1) 5)) := rfl
    walk_at "r"
    refine a_lenT hT ?_
    walk_at "r"
    refine ite2 (fun c => ?_) (fun c => ?_)
    · have c' : ¬ ds.length = 2 := fun z => by
        rw [hl, decide_eq_true (show (ds.length : Int) = 2 by omega)] at c
        cases c
      rw [e0, decide_eq_false c'] at g
      walk_at "r"
      exact g
    · have c' : ds.length = 2 := Decidable.byContradiction fun z => c (by
        rw [hl, decide_eq_false (show ¬ (ds.length : Int) = 2 by omega)]
        rfl)
      rw [decide_eq_true c', Bool.true_and] at e0
      walk_at "r"
      refine a_nthS (i := 0) hT hD hs (by omega) fun v0 d0 => ?_
      walk_at "r"
      refine ⟨v0, _, rfl, d0, fun H1 e1 => ?_⟩
      have g1 := q H1 e1
      rw [e0] at g1
      walk_at "r"
      refine ite2 (fun k => ?_) (fun k => ?_)
      · walk_at "r"
        refine a_nthS (i := 1) (ex_st hT e1) (dpa_ex e1 hD) hs (by omega) fun v1 d1 => ?_
        walk_at "r"
        refine ⟨v1, _, 5, rfl, d1, fun H2 e2 => ?_⟩
        have g2 := q H2 (e1.trans e2)
        rw [e0, k] at g2
        exact g2
      · rw [nf k] at g1
        exact g1
def pFw (K : PySem.W.Frag) : Sp := fun vs H Q _ => ∃ v d, vs = [v] ∧ Ds K H v d ∧ RV1 (.str (fwD d)) H Q
theorem ok_first_word (T : Tx K mg) : FnOk P w K mg base CX0 1 T.a_first_word T.e_first_word p_first_word (pFw K) := by
  refine T.d_first_word.F.ok sc_first_word (fun vs H Q E h => ?_) (fun cdv A outer s H vs Q E hr h => ?_)
  · obtain ⟨v, d, rfl, _⟩ := h
    rfl
  obtain ⟨v, d, rfl, hd, q⟩ := h
  refine ⟨_, (pss_cons (ps_if (PW.pt (pw_or (pt_cmpR k_notTy (pe_callTy (typK K) (by rfl) T.b_type (by decide +kernel) (pa_cons (pv 0) pa_nil)) (pe_bltn (v := .ty "tuple") (by rfl) T.b_tuple (by decide +kernel) rfl) (nomark _)) (pw_or1 (pt_cmpR op_eq (pe_callB (lenK K) (by rfl) T.b_len PySem.boot_len (pa_cons (pv 0) pa_nil)) pe_int (nomark _))))) (pss_one (ps_ret pe_str)) pss_nil)
    (pss_cons (ps_set (i := 1) sc_first_word.nd rfl (.inl rfl) (pe_ix (ixT K) (pv 0) pe_int (fun _ _ => rfl)))
    (pss_cons (ps_if (pt_cmpR k_notTy (pe_callTy (typK K) (by rfl) T.b_type (by decide +kernel) (pa_cons (pv 1) pa_nil)) (pe_bltn (v := .ty "str") (by rfl) T.b_str (by decide +kernel) rfl) (nomark _)) (pss_one (ps_ret pe_str)) pss_nil)
    (pss_one (ps_ret (pv 1)))))), ?_⟩
  walk_at "r"
  refine ⟨v, _, rfl, dp_tag hd.1, ?_⟩
  walk_at "r"
  have g := q H (Ex.refl _)
  refine ite2 (fun c => ?_) (fun c => ?_)
  · rw [fw_no (.inl (fun z => by rw [z] at c; exact absurd c (by decide)))] at g
    walk_at "r"
    exact g
  · obtain ⟨p, xs, ds, rfl, rfl, hT, hD, hs, hl⟩ := ds_tup hd (Decidable.byContradiction fun z => c (by rw [decide_eq_false z]; rfl))
    walk_at "r"
    refine a_lenT hT ?_
    walk_at "r"
    refine ite2 (fun c => ?_) (fun c => ?_)
    · have c' := of_decide_eq_true c
      rw [fw_no (d := .tuple ds) (.inr (.inl (show ds.length = 0 by omega)))] at g
      walk_at "r"
      exact g
    · have c' : 0 < ds.length := by
        have := of_decide_eq_false (nf c)
        omega
      walk_at "r"
      refine a_nthS (i := 0) hT hD hs (by omega) fun v0 d0 => ?_
      walk_at "r"
      refine ⟨v0, _, rfl, dp_tag d0.1, ?_⟩
      walk_at "r"
      refine ite2 (fun c => ?_) (fun c => ?_)
      · rw [fw_no (.inr (.inr (fun z => by rw [z] at c; exact absurd c (by decide))))] at g
        walk_at "r"
        exact g
      · obtain ⟨x, rfl, ex, _⟩ := ds_str d0 (Decidable.byContradiction fun z => c (by rw [decide_eq_false z]; rfl))
        rw [fw_str c' ex] at g
        walk_at "r"
        exact g
theorem word_tup {H : Hp} {v : V} {d : PyData} (h : Ds K H v d) (n : fwD d ≠ "") : ∃ p xs ds, v = .ref p ∧ d = .tuple ds ∧ SqT K H p xs ∧ DpAll K H xs ds ∧ smAll ds = true ∧ xs.length = ds.length := by
  obtain ⟨ds, e, _⟩ := fw_ne n
  exact ds_tup h (by rw [e]; rfl)
theorem dec_len {xs : List V} {ds : List PyData} (h : xs.length = ds.length) (n : Nat) (m : Int) (e : m = (n : Int)) : decide ((xs.length : Int) = m) = decide (lenD (.tuple ds) = n) := by
  show _ = decide (ds.length = n)
  subst e
  rw [h]
  by_cases z : ds.length = n
  · rw [decide_eq_true z, decide_eq_true (by omega)]
  · rw [decide_eq_false z, decide_eq_false (by omega)]
theorem ok_is_source (T : Tx K mg) : FnOk P w K mg base CX0 3 T.a_is_source T.e_is_source p_is_source (pF1 K srcD) := by
  refine T.d_is_source.F.ok sc_is_source (fun vs H Q E h => ?_) (fun cdv A outer s H vs Q E hr h => ?_)
  · obtain ⟨v, d, rfl, _⟩ := h
    rfl
  obtain ⟨v, d, rfl, hd, q⟩ := h
  refine ⟨_, (pss_cons (ps_set (i := 1) sc_is_source.nd rfl (.inl rfl) (pe_call (ok_first_word T) (hr.mono (by omega)) (by rfl) T.d_first_word.m T.d_first_word.F.kp T.d_first_word.b .nil pass0 (pa_cons (pv 0) pa_nil)))
    (pss_cons (ps_if (pt_cmpR op_eq (pv 1) pe_str (nomark _)) (pss_one (ps_ret (pe_cmpR op_eq (pe_callB (lenK K) (by rfl) T.b_len PySem.boot_len (pa_cons (pv 0) pa_nil)) pe_int (nomark _)))) pss_nil)
    (pss_cons (ps_if (pt_cmpR op_eq (pv 1) pe_str (nomark _)) (pss_one (ps_ret (pe_and (pe_cmpR op_eq (pe_callB (lenK K) (by rfl) T.b_len PySem.boot_len (pa_cons (pv 0) pa_nil)) pe_int (nomark _)) (pe_one (pe_call (ok_is_number T) (hr.mono (by omega)) (by rfl) T.d_is_number.m T.d_is_number.F.kp T.d_is_number.b .nil pass0 (pa_cons (pe_ix (ixT K) (pv 0) pe_int (fun _ _ => rfl)) (pa_cons (pe_glob (v := .int 1000) (by rfl) T.m_MOST_NUMBER ⟨_, rfl⟩) pa_nil))))))) pss_nil)
    (pss_one (ps_ret (pe_and (pe_cmpR (inK K) (pv 1) (pe_tup (pa_cons pe_str (pa_cons pe_str pa_nil))) (by rfl)) (pe_and (pe_cmpR op_eq (pe_callB (lenK K) (by rfl) T.b_len PySem.boot_len (pa_cons (pv 0) pa_nil)) pe_int (nomark _)) (pe_one (pe_call (ok_is_place T) (hr.mono (by omega)) (by rfl) T.d_is_place.m T.d_is_place.F.kp T.d_is_place.b .nil pass0 (pa_cons (pe_ix (ixT K) (pv 0) pe_int (fun _ _ => rfl)) pa_nil)))))))))), ?_⟩
  walk_at "r"
  refine ⟨v, d, rfl, hd, fun H1 e1 => ?_⟩
  have g := q H1 e1
  unfold srcD at g
  walk_at "r"
  refine ite2 (fun c => ?_) (fun c => ?_)
  · have c' := of_decide_eq_true c
    obtain ⟨p, xs, ds, rfl, rfl, hT, hD, hs, hl⟩ := word_tup hd (by rw [c']; decide)
    rw [if_pos c'] at g
    walk_at "r"
    refine a_lenT (ex_st hT e1) ?_
    walk_at "r"
    rw [← dec_len hl 1 1 rfl] at g
    exact g
  have c' := of_decide_eq_false (nf c)
  rw [if_neg c'] at g
  walk_at "r"
  refine ite2 (fun c2 => ?_) (fun c2 => ?_)
  · have c2' := of_decide_eq_true c2
    obtain ⟨p, xs, ds, rfl, rfl, hT, hD, hs, hl⟩ := word_tup hd (by rw [c2']; decide)
    rw [if_pos c2', ← dec_len hl 2 2 rfl] at g
    walk_at "r"
    refine a_lenT (ex_st hT e1) ?_
    walk_at "r"
    refine ite2 (fun k => ?_) (fun k => ?_)
    · rw [k, Bool.true_and] at g
      have h2 : ds.length = 2 := by
        have := of_decide_eq_true k
        omega
      walk_at "r"
      refine a_nthS (i := 1) (ex_st hT e1) (dpa_ex e1 hD) hs (by omega) fun v1 d1 => ?_
      walk_at "r"
      refine ⟨v1, _, 1000, rfl, d1, fun H2 e2 => ?_⟩
      have g2 := q H2 (e1.trans e2)
      unfold srcD at g2
      rw [if_neg c', if_pos c2', ← dec_len hl 2 2 rfl, k, Bool.true_and] at g2
      exact g2
    · rw [nf k] at g
      exact g
  have c2' := of_decide_eq_false (nf c2)
  rw [if_neg c2'] at g
  walk_at "r"
  refine new_tup (by simp) fun t H2 n2 e2 f2 => ?_
  walk_at "r"
  refine a_inT (SqT.of f2) rfl rfl ?_
  have g2 := q H2 (e1.trans e2)
  unfold srcD at g2
  rw [if_neg c', if_neg c2'] at g2
  walk_at "r"
  refine ite2 (fun k => ?_) (fun k => ?_)
  · have n0 : fwD d ≠ "" := fun z => by
      rw [z] at k
      exact absurd k (by decide)
    obtain ⟨p, xs, ds, rfl, rfl, hT, hD, hs, hl⟩ := word_tup hd n0
    rw [k, Bool.true_and, ← dec_len hl 2 2 rfl] at g2
    walk_at "r"
    refine a_lenT (ex_st hT (e1.trans e2)) ?_
    walk_at "r"
    refine ite2 (fun k2 => ?_) (fun k2 => ?_)
    · have h2 : ds.length = 2 := by
        have := of_decide_eq_true k2
        omega
      walk_at "r"
      refine a_nthS (i := 1) (ex_st hT (e1.trans e2)) (dpa_ex (e1.trans e2) hD) hs (by omega) fun v1 d1 => ?_
      walk_at "r"
      refine ⟨v1, _, rfl, d1, fun H3 e3 => ?_⟩
      have g3 := q H3 ((e1.trans e2).trans e3)
      unfold srcD at g3
      rw [if_neg c', if_neg c2', k, Bool.true_and, ← dec_len hl 2 2 rfl, k2, Bool.true_and] at g3
      exact g3
    · rw [nf k2] at g2
      exact g2
  · rw [nf k] at g2
    exact g2
theorem ok_is_source_list (T : Tx K mg) : FnOk P w K mg base CX0 4 T.a_is_source_list T.e_is_source_list p_is_source_list (pF1 K srcsD) := by
  refine T.d_is_source_list.F.ok sc_is_source_list (fun vs H Q E h => ?_) (fun cdv A outer s H vs Q E hr h => ?_)
  · obtain ⟨v, d, rfl, _⟩ := h
    rfl
  obtain ⟨v, d, rfl, hd, q⟩ := h
  refine ⟨_, (pss_one (ps_ret (pe_and (pe_cmpR k_isTy (pe_callTy (typK K) (by rfl) T.b_type (by decide +kernel) (pa_cons (pv 0) pa_nil)) (pe_bltn (v := .ty "list") (by rfl) T.b_list (by decide +kernel) rfl) (nomark _)) (pe_one (pe_callB (allK K) (by rfl) T.b_all (by decide +kernel) (pa_cons (pe_lc (own := [("part", 1)]) (g := gName 1) rfl sc_is_source_list.nd  (plK K (pv 0)) (blkOk_by (own := [("part", 1)]) (N := n_is_source_list) (sc := defScope s_is_source_list) (by decide +kernel)) (fun _ _ _ _ _ => (pg_name (i := 1) sc_is_source_list.nd rfl (Or.inl rfl))) (fun _ _ _ _ _ => pts_nil) (fun _ _ _ _ _ => (pe_call (ok_is_source T) (hr.mono (by omega)) (by rfl) T.d_is_source.m T.d_is_source.F.kp T.d_is_source.b .nil pass0 (pa_cons (pv 1) pa_nil)))) pa_nil)))))), ?_⟩
  walk_at "r"
  refine ⟨v, _, rfl, dp_tag hd.1, ?_⟩
  walk_at "r"
  have g := q H (Ex.refl _)
  refine ite2 (fun c => ?_) (fun c => ?_)
  · obtain ⟨p, xs, ds, rfl, rfl, hL, hD, hs, hz, hl⟩ := ds_lst hd (of_decide_eq_true c)
    walk_at "r"
    refine c_L hL ?_
    refine cp_list (xs := xs) (fun l k h => Ex H h ∧ h l = some (.lst (((ds.take k).map srcD).map V.bl))) (fun l n => ⟨Ex.new n, upd_same⟩) (fun l k h _ _ g => ex_sl hL g.1) ?_ ?_
    · rintro l k x h nl hx ⟨e, f⟩
      obtain ⟨d, hd', dx⟩ := ds_at hD hs hx
      have hk := at_lt hx
      walk_at "r"
      refine ⟨rfl, ?_⟩
      walk_at "r"
      refine ⟨x, d, rfl, ds_ex dx e, fun H1 e1 => ?_⟩
      refine ⟨_, e1 _ _ f, sz_lt (by rw [bools_len]; omega), (e.trans e1).mut nl, ?_⟩
      rw [upd_same, bools_snoc srcD hd']
    · rintro l h nl ⟨e, f⟩
      walk_at "r"
      rw [hl, List.take_length] at f
      refine ⟨l, _, rfl, SqL.of f, ?_⟩
      rw [bools_all]
      exact q _ e
  · rw [srcsD_tag (not_tag c)] at g
    exact g
theorem ok_is_declared (T : Tx K mg) : FnOk P w K mg base CX0 4 T.a_is_declared T.e_is_declared p_is_declared (pF1 K declD) := by
  refine T.d_is_declared.F.ok sc_is_declared (fun vs H Q E h => ?_) (fun cdv A outer s H vs Q E hr h => ?_)
  · obtain ⟨v, d, rfl, _⟩ := h
    rfl
  obtain ⟨v, d, rfl, hd, q⟩ := h
  refine ⟨_, (pss_cons (ps_if (PW.pt (pw_or (pt_cmpR k_notTy (pe_callTy (typK K) (by rfl) T.b_type (by decide +kernel) (pa_cons (pv 0) pa_nil)) (pe_bltn (v := .ty "tuple") (by rfl) T.b_tuple (by decide +kernel) rfl) (nomark _)) (pw_or1 (pt_cmpR op_ne (pe_callB (lenK K) (by rfl) T.b_len PySem.boot_len (pa_cons (pv 0) pa_nil)) pe_int (nomark _))))) (pss_one (ps_ret pe_bl)) pss_nil)
    (pss_one (ps_ret (pe_and (pe_call (ok_is_name T) (hr.mono (by omega)) (by rfl) T.d_is_name.m T.d_is_name.F.kp T.d_is_name.b .nil pass0 (pa_cons (pe_ix (ixT K) (pv 0) pe_int (fun _ _ => rfl)) pa_nil)) (pe_one (pe_or (pe_call (ok_is_type T) (hr.mono (by omega)) (by rfl) T.d_is_type.m T.d_is_type.F.kp T.d_is_type.b .nil pass0 (pa_cons (pe_ix (ixT K) (pv 0) pe_int (fun _ _ => rfl)) pa_nil)) (pe_one (pe_call (ok_is_depth T) (hr.mono (by omega)) (by rfl) T.d_is_depth.m T.d_is_depth.F.kp T.d_is_depth.b .nil pass0 (pa_cons (pe_ix (ixT K) (pv 0) pe_int (fun _ _ => rfl)) pa_nil))))))))), ?_⟩
  walk_at "r"
  refine ⟨v, _, rfl, dp_tag hd.1, ?_⟩
  walk_at "r"
  have g := q H (Ex.refl _)
  refine ite2 (fun c => ?_) (fun c => ?_)
  · rw [declD_tag (fun z => by rw [z] at c; exact absurd c (by decide))] at g
    walk_at "r"
    exact g
  · obtain ⟨p, xs, ds, rfl, rfl, hT, hD, hs, hl⟩ := ds_tup hd (Decidable.byContradiction fun z => c (by rw [decide_eq_false z]; rfl))
    have e0 : declD (.tuple ds) = (decide (ds.length = 2) && (nameD (nthD (.tuple ds) 0) && (typD (nthD (.tuple ds) 1) || numD (nthD (.tuple ds) 1) 5))) := rfl
    walk_at "r"
    refine a_lenT hT ?_
    walk_at "r"
    refine ite2 (fun c => ?_) (fun c => ?_)
    · have c' : ¬ ds.length = 2 := fun z => by
        rw [hl, decide_eq_true (show (ds.length : Int) = 2 by omega)] at c
        cases c
      rw [e0, decide_eq_false c'] at g
      walk_at "r"
      exact g
    · have c' : ds.length = 2 := Decidable.byContradiction fun z => c (by
        rw [hl, decide_eq_false (show ¬ (ds.length : Int) = 2 by omega)]
        rfl)
      rw [decide_eq_true c', Bool.true_and] at e0
      walk_at "r"
      refine a_nthS (i := 0) hT hD hs (by omega) fun v0 d0 => ?_
      walk_at "r"
      refine ⟨v0, _, rfl, d0, fun H1 e1 => ?_⟩
      have g1 := q H1 e1
      rw [e0] at g1
      walk_at "r"
      refine ite2 (fun k => ?_) (fun k => ?_)
      · walk_at "r"
        refine a_nthS (i := 1) (ex_st hT e1) (dpa_ex e1 hD) hs (by omega) fun v1 d1 => ?_
        walk_at "r"
        refine ⟨v1, _, rfl, d1, fun H2 e2 => ?_⟩
        have g2 := q H2 (e1.trans e2)
        rw [e0, k] at g2
        walk_at "r"
        refine ite2 (fun k2 => ?_) (fun k2 => ?_)
        · rw [k2] at g2
          exact g2
        · rw [nf k2] at g2
          walk_at "r"
          refine a_nthS (i := 1) (ex_st hT (e1.trans e2)) (dpa_ex (e1.trans e2) hD) hs (by omega) fun v2 d2 => ?_
          walk_at "r"
          refine ⟨v2, _, rfl, d2, fun H3 e3 => ?_⟩
          have g3 := q H3 ((e1.trans e2).trans e3)
          rw [e0, k, nf k2] at g3
          exact g3
      · rw [nf k] at g1
        exact g1
theorem ok_is_statement (T : Tx K mg) : FnOk P w K mg base CX0 5 T.a_is_statement T.e_is_statement p_is_statement (pF1 K stmtD) := by
  refine T.d_is_statement.F.ok sc_is_statement (fun vs H Q E h => ?_) (fun cdv A outer s H vs Q E hr h => ?_)
  · obtain ⟨v, d, rfl, _⟩ := h
    rfl
  obtain ⟨v, d, rfl, hd, q⟩ := h
  refine ⟨_, (pss_cons (ps_set (i := 1) sc_is_statement.nd rfl (.inl rfl) (pe_call (ok_first_word T) (hr.mono (by omega)) (by rfl) T.d_first_word.m T.d_first_word.F.kp T.d_first_word.b .nil pass0 (pa_cons (pv 0) pa_nil)))
    (pss_cons (ps_if (pt_cmpR op_eq (pv 1) pe_str (nomark _)) (pss_one (ps_ret (pe_and (pe_cmpR op_eq (pe_callB (lenK K) (by rfl) T.b_len PySem.boot_len (pa_cons (pv 0) pa_nil)) pe_int (nomark _)) (pe_and (pe_call (ok_is_declared T) (hr.mono (by omega)) (by rfl) T.d_is_declared.m T.d_is_declared.F.kp T.d_is_declared.b .nil pass0 (pa_cons (pe_slice (slA K) (pv 0) (po_some pe_int) (po_some pe_int)) pa_nil)) (pe_one (pe_call (ok_is_source T) (hr.mono (by omega)) (by rfl) T.d_is_source.m T.d_is_source.F.kp T.d_is_source.b .nil pass0 (pa_cons (pe_ix (ixT K) (pv 0) pe_int (fun _ _ => rfl)) pa_nil))))))) pss_nil)
    (pss_cons (ps_if (pt_cmpR op_eq (pv 1) pe_str (nomark _)) (pss_one (ps_ret (pe_and (pe_cmpR op_eq (pe_callB (lenK K) (by rfl) T.b_len PySem.boot_len (pa_cons (pv 0) pa_nil)) pe_int (nomark _)) (pe_and (pe_call (ok_is_place T) (hr.mono (by omega)) (by rfl) T.d_is_place.m T.d_is_place.F.kp T.d_is_place.b .nil pass0 (pa_cons (pe_ix (ixT K) (pv 0) pe_int (fun _ _ => rfl)) pa_nil)) (pe_one (pe_call (ok_is_source T) (hr.mono (by omega)) (by rfl) T.d_is_source.m T.d_is_source.F.kp T.d_is_source.b .nil pass0 (pa_cons (pe_ix (ixT K) (pv 0) pe_int (fun _ _ => rfl)) pa_nil))))))) pss_nil)
    (pss_one (ps_ret (pe_and (pe_cmpR op_eq (pv 1) pe_str (nomark _)) (pe_and (pe_cmpR op_eq (pe_callB (lenK K) (by rfl) T.b_len PySem.boot_len (pa_cons (pv 0) pa_nil)) pe_int (nomark _)) (pe_and (pe_call (ok_is_name T) (hr.mono (by omega)) (by rfl) T.d_is_name.m T.d_is_name.F.kp T.d_is_name.b .nil pass0 (pa_cons (pe_ix (ixT K) (pv 0) pe_int (fun _ _ => rfl)) pa_nil)) (pe_one (pe_call (ok_is_source_list T) (hr.mono (by omega)) (by rfl) T.d_is_source_list.m T.d_is_source_list.F.kp T.d_is_source_list.b .nil pass0 (pa_cons (pe_ix (ixT K) (pv 0) pe_int (fun _ _ => rfl)) pa_nil))))))))))), ?_⟩
  walk_at "r"
  refine ⟨v, d, rfl, hd, fun H1 e1 => ?_⟩
  walk_at "r"
  have g := q H1 e1
  unfold stmtD at g
  refine ite2 (fun c => ?_) (fun c => ?_)
  · have c' := of_decide_eq_true c
    have es : stmtD d = (decide (lenD d = 4) && (declD (cut13 d) && srcD (nthD d 3))) := by
      unfold stmtD
      rw [if_pos c']
    rw [if_pos c'] at g
    obtain ⟨p, xs, ds, rfl, rfl, hT, hD, hs, hl⟩ := word_tup hd (by rw [c']; decide)
    walk_at "r"
    refine a_lenT (ex_st hT e1) ?_
    walk_at "r"
    rw [← dec_len hl 4 4 rfl] at g
    refine ite2 (fun k => ?_) (fun k => ?_)
    · rw [← dec_len hl 4 4 rfl, k, Bool.true_and] at es
      have h4 : ds.length = 4 := by
        have := of_decide_eq_true k
        omega
      walk_at "r"
      refine a_sl13 (ex_st hT e1) (by omega) fun t H2 _ e2 f2 => ?_
      walk_at "r"
      refine ⟨.ref t, cut13 (.tuple ds), rfl, ⟨.tup (SqT.of f2) (dpa_ex (e1.trans e2) (dpa_take 2 (dpa_drop 1 hD))), sm_tup (sm_take 2 (sm_drop 1 hs)) (by rw [List.length_take]; omega)⟩, fun H3 e3 => ?_⟩
      have e13 := (e1.trans e2).trans e3
      have g3 := q H3 e13
      rw [es] at g3
      walk_at "r"
      refine ite2 (fun k2 => ?_) (fun k2 => ?_)
      · walk_at "r"
        refine a_nthS (i := 3) (ex_st hT e13) (dpa_ex e13 hD) hs (by omega) fun v1 d1 => ?_
        walk_at "r"
        refine ⟨v1, _, rfl, d1, fun H4 e4 => ?_⟩
        have g4 := q H4 (e13.trans e4)
        rw [es, k2, Bool.true_and] at g4
        exact g4
      · rw [nf k2] at g3
        exact g3
    · rw [nf k] at g
      exact g
  have c' := of_decide_eq_false (nf c)
  rw [if_neg c'] at g
  walk_at "r"
  refine ite2 (fun c2 => ?_) (fun c2 => ?_)
  · have c2' := of_decide_eq_true c2
    have es : stmtD d = (decide (lenD d = 3) && (placeD (nthD d 1) && srcD (nthD d 2))) := by
      unfold stmtD
      rw [if_neg c', if_pos c2']
    rw [if_pos c2'] at g
    obtain ⟨p, xs, ds, rfl, rfl, hT, hD, hs, hl⟩ := word_tup hd (by rw [c2']; decide)
    walk_at "r"
    refine a_lenT (ex_st hT e1) ?_
    walk_at "r"
    rw [← dec_len hl 3 3 rfl] at g
    refine ite2 (fun k => ?_) (fun k => ?_)
    · rw [← dec_len hl 3 3 rfl, k, Bool.true_and] at es
      have h3 : ds.length = 3 := by
        have := of_decide_eq_true k
        omega
      walk_at "r"
      refine a_nthS (i := 1) (ex_st hT e1) (dpa_ex e1 hD) hs (by omega) fun v1 d1 => ?_
      walk_at "r"
      refine ⟨v1, _, rfl, d1, fun H2 e2 => ?_⟩
      have e12 := e1.trans e2
      have g2 := q H2 e12
      rw [es] at g2
      walk_at "r"
      refine ite2 (fun k2 => ?_) (fun k2 => ?_)
      · walk_at "r"
        refine a_nthS (i := 2) (ex_st hT e12) (dpa_ex e12 hD) hs (by omega) fun v2 d2 => ?_
        walk_at "r"
        refine ⟨v2, _, rfl, d2, fun H4 e4 => ?_⟩
        have g4 := q H4 (e12.trans e4)
        rw [es, k2, Bool.true_and] at g4
        exact g4
      · rw [nf k2] at g2
        exact g2
    · rw [nf k] at g
      exact g
  have c2' := of_decide_eq_false (nf c2)
  have es : stmtD d = (decide (fwD d = "call") && (decide (lenD d = 3) && (nameD (nthD d 1) && srcsD (nthD d 2)))) := by
    unfold stmtD
    rw [if_neg c', if_neg c2']
  rw [if_neg c2'] at g
  walk_at "r"
  refine ite2 (fun c3 => ?_) (fun c3 => ?_)
  · have c3' := of_decide_eq_true c3
    obtain ⟨p, xs, ds, rfl, rfl, hT, hD, hs, hl⟩ := word_tup hd (by rw [c3']; decide)
    rw [c3, Bool.true_and, ← dec_len hl 3 3 rfl] at es g
    walk_at "r"
    refine a_lenT (ex_st hT e1) ?_
    walk_at "r"
    refine ite2 (fun k => ?_) (fun k => ?_)
    · rw [k, Bool.true_and] at es
      have h3 : ds.length = 3 := by
        have := of_decide_eq_true k
        omega
      walk_at "r"
      refine a_nthS (i := 1) (ex_st hT e1) (dpa_ex e1 hD) hs (by omega) fun v1 d1 => ?_
      walk_at "r"
      refine ⟨v1, _, rfl, d1, fun H2 e2 => ?_⟩
      have e12 := e1.trans e2
      have g2 := q H2 e12
      rw [es] at g2
      walk_at "r"
      refine ite2 (fun k2 => ?_) (fun k2 => ?_)
      · walk_at "r"
        refine a_nthS (i := 2) (ex_st hT e12) (dpa_ex e12 hD) hs (by omega) fun v2 d2 => ?_
        walk_at "r"
        refine ⟨v2, _, rfl, d2, fun H4 e4 => ?_⟩
        have g4 := q H4 (e12.trans e4)
        rw [es, k2, Bool.true_and] at g4
        exact g4
      · rw [nf k2] at g2
        exact g2
    · rw [nf k] at g
      exact g
  · rw [nf c3] at g
    exact g
end
section
variable {P : Program} {w : World} {K : PySem.W.Frag} {mg : Str → Option Value} {base : Heap}
theorem ok_copied (T : Tx K mg) : FnOk P w K mg base CX0 1 T.a_copied T.e_copied p_copied (pCop K) := by
  refine T.d_copied.F.ok sc_copied (fun vs H Q E h => ?_) (fun cdv A outer s H vs Q E hr h => ?_)
  · obtain ⟨S, v, d, rfl, _⟩ := h
    rfl
  obtain ⟨S, v, d, rfl, al, hd, q1, q2⟩ := h
  refine ⟨_, (pss_cons (ps_if (pt_cmpR k_isTy (pe_callTy (typK K) (by rfl) T.b_type (by decide +kernel) (pa_cons (pv 0) pa_nil)) (pe_bltn (v := .ty "list") (by rfl) T.b_list (by decide +kernel) rfl) (nomark _)) (pss_one (ps_ret (pe_callTy (lstK K) (by rfl) T.b_list (by decide +kernel) (pa_cons (pv 0) pa_nil)))) pss_nil)
    (pss_one (ps_ret (pv 0)))), ?_⟩
  walk_at "r"
  refine ⟨v, _, rfl, dp_tag (dp_ex (dl_le S H) hd.1), ?_⟩
  walk_at "r"
  refine ite2 (fun c => ?_) (fun c => ?_)
  · obtain ⟨p, xs, ds, rfl, rfl, hL, hD, hs, hz, hl⟩ := ds_lst hd (of_decide_eq_true c)
    walk_at "r"
    refine a_lstL (sl_dl hL) fun q H1 n1 e1 f1 => ?_
    exact q2 ds rfl q xs H1 n1 e1 f1 (dpa_ex (dl_ex e1) hD)
  · walk_at "r"
    exact q1 (not_tag c)
theorem ok_copied_statement (T : Tx K mg) : FnOk P w K mg base CX0 2 T.a_copied_statement T.e_copied_statement p_copied_statement (pCs K) := by
  refine T.d_copied_statement.F.ok sc_copied_statement (fun vs H Q E h => ?_) (fun cdv A outer s H vs Q E hr h => ?_)
  · obtain ⟨S, v, d, rfl, _⟩ := h
    rfl
  obtain ⟨S, v, d, rfl, al, hd, q⟩ := h
  refine ⟨_, (pss_cons (ps_if (pt_cmpR k_notTy (pe_callTy (typK K) (by rfl) T.b_type (by decide +kernel) (pa_cons (pv 0) pa_nil)) (pe_bltn (v := .ty "tuple") (by rfl) T.b_tuple (by decide +kernel) rfl) (nomark _)) (pss_one (ps_ret (pv 0))) pss_nil)
    (pss_one (ps_ret (pe_callTy (tupFK K) (by rfl) T.b_tuple (by decide +kernel) (pa_cons (pe_lc (own := [("part", 1)]) (g := gName 1) rfl sc_copied_statement.nd  (ptK K (pv 0)) (blkOk_by (own := [("part", 1)]) (N := n_copied_statement) (sc := defScope s_copied_statement) (by decide +kernel)) (fun _ _ _ _ _ => (pg_name (i := 1) sc_copied_statement.nd rfl (Or.inl rfl))) (fun _ _ _ _ _ => pts_nil) (fun _ _ _ _ _ => (pe_call (ok_copied T) (hr.mono (by omega)) (by rfl) T.d_copied.m T.d_copied.F.kp T.d_copied.b .nil pass0 (pa_cons (pv 1) pa_nil)))) pa_nil))))), ?_⟩
  walk_at "r"
  refine ⟨v, _, rfl, dp_tag (dp_ex (dl_le S H) hd.1), ?_⟩
  walk_at "r"
  refine ite2 (fun c => ?_) (fun c => ?_)
  · walk_at "r"
    exact q v H (Ex.refl _) hd.1
  · obtain ⟨p, xs, ds, rfl, rfl, hT, hD, hs, hz, hl⟩ := ds_tupz hd (Decidable.byContradiction fun z => c (by rw [decide_eq_false z]; rfl))
    walk_at "r"
    refine c_T (st_dl hT) ?_
    refine cp_tup (xs := xs) (fun l k h => Ex H h ∧ Al (l :: S) h ∧ ∃ ys, h l = some (.lst ys) ∧ DpAll K (dl (l :: S) h) ys (ds.take k))
      (fun l n => ⟨Ex.new n, (al.ex (Ex.new n)).cons upd_same, [], upd_same, .nil⟩) (fun l k h _ _ g => ex_st (st_dl hT) g.1) ?_ ?_
    · rintro l k x h nl hx ⟨e, al2, ys, f, fD⟩
      obtain ⟨d, hd', dx⟩ := ds_at hD hs hx
      have hk := at_lt hx
      have yl := dpa_len fD
      rw [take_len hd'] at yl
      walk_at "r"
      refine ⟨rfl, ?_⟩
      walk_at "r"
      have dx2 : Ds K (dl (l :: S) h) x d := ds_ex dx (dl_new nl e)
      refine ⟨l :: S, x, d, rfl, al2, dx2, fun _ => ?_, fun es ed q ys2 H1 n1 e1 f1 f2 => ?_⟩
      · refine ⟨ys, f, sz_lt (by omega), e.mut nl, ?_, ys ++ [x], upd_same, ?_⟩
        · exact Al.cons (fun a k => by
            by_cases z : a = l
            · rw [z, upd_same]; exact fun z => by cases z
            · rw [upd_ne z]; exact al2 a (List.mem_cons_of_mem _ k)) upd_same
        · rw [dl_upd (List.mem_cons_self ..), take_snoc hd']
          exact dpa_snoc fD dx2.1
      · refine ⟨ys, e1 _ _ f, sz_lt (by omega), (e.trans e1).mut nl, ?_, ys ++ [.ref q], upd_same, ?_⟩
        · exact Al.cons (fun a k => by
            by_cases z : a = l
            · rw [z, upd_same]; exact fun z => by cases z
            · rw [upd_ne z]; exact (al2.ex e1) a (List.mem_cons_of_mem _ k)) upd_same
        · rw [dl_upd (List.mem_cons_self ..), take_snoc hd']
          refine dpa_snoc (dpa_ex (dl_ex e1) fD) ?_
          rw [ed]
          exact .lst (SqL.of (dl_at (al2.nin n1) f1)) f2
    · rintro l h nl ⟨e, al2, ys, f, fD⟩
      rw [hl, List.take_length] at fD
      walk_at "r"
      refine a_tupFL (SqL.of f) fun t H1 n1 e1 f1 => ?_
      refine q _ H1 (e.trans e1) (.tup (Tu.st (tu_dl (fun k => al2.nin n1 (List.mem_cons_of_mem _ k)) f1)) (dpa_ex ((dl_sub (fun a k => List.mem_cons_of_mem _ k)).trans (dl_ex e1)) fD))
theorem ok_copied_statements (T : Tx K mg) : FnOk P w K mg base CX0 3 T.a_copied_statements T.e_copied_statements p_copied_statements (pCss K) := by
  refine T.d_copied_statements.F.ok sc_copied_statements (fun vs H Q E h => ?_) (fun cdv A outer s H vs Q E hr h => ?_)
  · obtain ⟨S, p, ds, rfl, _⟩ := h
    rfl
  obtain ⟨S, p, ds, rfl, al, ⟨⟨xs, hL, hD⟩, hs, hz⟩, q⟩ := h
  have hl := dpa_len hD
  refine ⟨_, (pss_cons (ps_if (pt_cmpR k_notTy (pe_callTy (typK K) (by rfl) T.b_type (by decide +kernel) (pa_cons (pv 0) pa_nil)) (pe_bltn (v := .ty "list") (by rfl) T.b_list (by decide +kernel) rfl) (nomark _)) (pss_one (ps_ret (pv 0))) pss_nil)
    (pss_one (ps_ret (pe_lc (own := [("statement", 1)]) (g := gName 1) rfl sc_copied_statements.nd  (plK K (pv 0)) (blkOk_by (own := [("statement", 1)]) (N := n_copied_statements) (sc := defScope s_copied_statements) (by decide +kernel)) (fun _ _ _ _ _ => (pg_name (i := 1) sc_copied_statements.nd rfl (Or.inl rfl))) (fun _ _ _ _ _ => pts_nil) (fun _ _ _ _ _ => (pe_call (ok_copied_statement T) (hr.mono (by omega)) (by rfl) T.d_copied_statement.m T.d_copied_statement.F.kp T.d_copied_statement.b .nil pass0 (pa_cons (pv 1) pa_nil))))))), ?_⟩
  walk_at "r"
  refine ⟨.ref p, _, rfl, .lst (sl_dl hL), ?_⟩
  walk_at "r"
  refine ite2 (fun c => absurd c (by decide)) (fun _ => ?_)
  walk_at "r"
  refine c_L (sl_dl hL) ?_
  refine cp_list (xs := xs) (fun l k h => Ex H h ∧ Al (l :: S) h ∧ ∃ ys, h l = some (.lst ys) ∧ DpAll K (dl (l :: S) h) ys (ds.take k))
    (fun l n => ⟨Ex.new n, (al.ex (Ex.new n)).cons upd_same, [], upd_same, .nil⟩) (fun l k h _ _ g => ex_sl (sl_dl hL) g.1) ?_ ?_
  · rintro l k x h nl hx ⟨e, al2, ys, f, fD⟩
    obtain ⟨d, hd', dx⟩ := ds_at hD hs hx
    have hk := at_lt hx
    have yl := dpa_len fD
    rw [take_len hd'] at yl
    walk_at "r"
    refine ⟨rfl, ?_⟩
    walk_at "r"
    refine ⟨l :: S, x, d, rfl, al2, ds_ex dx (dl_new nl e), fun v' H1 e1 f1 => ?_⟩
    refine ⟨ys, e1 _ _ f, sz_lt (by omega), (e.trans e1).mut nl, ?_, ys ++ [v'], upd_same, ?_⟩
    · exact Al.cons (fun a k => by
        by_cases z : a = l
        · rw [z, upd_same]; exact fun z => by cases z
        · rw [upd_ne z]; exact (al2.ex e1) a (List.mem_cons_of_mem _ k)) upd_same
    · rw [dl_upd (List.mem_cons_self ..), take_snoc hd']
      exact dpa_snoc (dpa_ex (dl_ex e1) fD) f1
  · rintro l h nl ⟨e, al2, ys, f, fD⟩
    rw [hl, List.take_length] at fD
    walk_at "r"
    exact q l ys h nl e f (dpa_ex (dl_sub (fun a k => List.mem_cons_of_mem _ k)) fD)
theorem dl_lst {G : Hp} {p : Addr} {ds : List PyData} (h : Dl K G p ds) : Ds K G (.ref p) (.list ds) := by
  obtain ⟨xs, h1, h2⟩ := h.ex
  exact ⟨.lst h1 h2, sm_lst h.sm h.le⟩
theorem ok_Function_init (T : Tx K mg) : FnOk P w K mg base CX0 4 T.a_Function_init T.e_Function_init p_Function_init (pFi K T.C_Function) := by
  refine T.d_Function_init.F.ok sc_Function_init (fun vs H Q E h => ?_) (fun cdv A outer s H vs Q E hr h => ?_)
  · obtain ⟨S, a, dx, nv, pp, bp, f, rfl, _⟩ := h
    rfl
  obtain ⟨S, a, dx, nv, pp, bp, f, rfl, al, ha, fa, hn, hp, hb, q⟩ := h
  refine ⟨_, (pss_cons (ps_fld (pv 0) (pv 1) rfl)
    (pss_cons (ps_fld (pv 0) (pe_call (ok_copied T) (hr.mono (by omega)) (by rfl) T.d_copied.m T.d_copied.F.kp T.d_copied.b .nil pass0 (pa_cons (pv 2) pa_nil)) rfl)
    (pss_one (ps_fld (pv 0) (pe_call (ok_copied_statements T) (hr.mono (by omega)) (by rfl) T.d_copied_statements.m T.d_copied_statements.F.kp T.d_copied_statements.b .nil pass0 (pa_cons (pv 3) pa_nil)) rfl)))), ?_⟩
  walk_at "r"
  refine a_put T.c_Function T.n_Function_name fa (by decide) ?_
  have g1 : dl S (upd H a (.ins T.C_Function dx (putF "name" nv []))) = dl S H := dl_upd ha
  have al1 : Al S (upd H a (.ins T.C_Function dx (putF "name" nv []))) := al.upd
  have k1 : Ks [a] H (upd H a (.ins T.C_Function dx (putF "name" nv []))) := (Ks.refl _ _).upd (by simp)
  have f1 : (upd H a (.ins T.C_Function dx (putF "name" nv []))) a = some (.ins T.C_Function dx (putF "name" nv [])) := upd_same
  generalize upd H a (.ins T.C_Function dx (putF "name" nv [])) = H1 at g1 al1 k1 f1 ⊢
  rw [← g1] at hn hp hb
  walk_at "r"
  refine ⟨S, _, _, rfl, al1, dl_lst hp, fun z => absurd rfl z, fun ds ed q1 ys1 H2 n2 e2 f2 D2 => ?_⟩
  cases ed
  have na1 : q1 ≠ a := fun z => by rw [z, f1] at n2; cases n2
  walk_at "r"
  refine a_put T.c_Function T.n_Function_params (e2 _ _ f1) (put1_lt _ _) ?_
  have g3 : dl S (upd H2 a (.ins T.C_Function dx (putF "params" (.ref q1) (putF "name" nv [])))) = dl S H2 := dl_upd ha
  have al3 : Al S (upd H2 a (.ins T.C_Function dx (putF "params" (.ref q1) (putF "name" nv [])))) := (al1.ex e2).upd
  have k3 : Ks [a] H (upd H2 a (.ins T.C_Function dx (putF "params" (.ref q1) (putF "name" nv [])))) := (k1.trans (Ks.of e2)).upd (by simp)
  have f3 : (upd H2 a (.ins T.C_Function dx (putF "params" (.ref q1) (putF "name" nv [])))) a = some (.ins T.C_Function dx (putF "params" (.ref q1) (putF "name" nv []))) := upd_same
  have f3q : (upd H2 a (.ins T.C_Function dx (putF "params" (.ref q1) (putF "name" nv [])))) q1 = some (.lst ys1) := by rw [upd_ne na1]; exact f2
  generalize upd H2 a (.ins T.C_Function dx (putF "params" (.ref q1) (putF "name" nv []))) = H3 at g3 al3 k3 f3 f3q ⊢
  have e13 : Ex (dl S H1) (dl S H3) := by rw [g3]; exact dl_ex e2
  walk_at "r"
  refine ⟨S, _, _, rfl, al3, hb.up e13, fun q2 ys2 H4 n4 e4 f4 D4 => ?_⟩
  have na2 : q2 ≠ a := fun z => by rw [z, f3] at n4; cases n4
  have nq : q1 ≠ q2 := fun z => by rw [← z, f3q] at n4; cases n4
  walk_at "r"
  refine a_put T.c_Function T.n_Function_body (e4 _ _ f3) (put2_lt _ _ _ _) ?_
  walk_at "r"
  have e35 : Ex (dl S H2) (dl S (upd H4 a (.ins T.C_Function dx (fnF nv q1 q2)))) := by
    rw [dl_upd ha, ← g3]
    exact dl_ex e4
  refine q q1 q2 ys1 ys2 (upd H4 a (.ins T.C_Function dx (fnF nv q1 q2))) ((k3.trans (Ks.of e4)).upd (by simp)) (ks_none k1 n2 (by simpa using na1)) (ks_none k3 n4 (by simpa using na2)) nq upd_same (by rw [upd_ne na1]; exact e4 _ _ f3q) (by rw [upd_ne na2]; exact f4) (dpa_ex e35 D2) ?_
  rw [dl_upd ha]
  exact D4
theorem kit_self {C : Value} : PySem.W.kitOne K C C = some true := if_pos (beq_self_eq_true C)
theorem ok_copied_function (T : Tx K mg) : FnOk P w K mg base CX0 6 T.a_copied_function T.e_copied_function p_copied_function (pCf K T.C_Function) := by
  refine T.d_copied_function.F.ok sc_copied_function (fun vs H Q E h => ?_) (fun cdv A outer s H vs Q E hr h => ?_)
  · obtain ⟨S, a, f, rfl, _⟩ := h
    rfl
  obtain ⟨S, a, f, rfl, al, hf, q⟩ := h
  obtain ⟨dx, nv, p1, p2, fa, hn, hp, hb⟩ := hf.ex
  have fa' := dl_le S H _ _ fa
  have I := T.i_Function
  refine ⟨_, (pss_cons (ps_if (pt_not (pt_val (pe_callB (isiK K) (by rfl) T.b_isinstance (by decide +kernel) (pa_cons (pv 0) (pa_cons (pe_glob (v := .ref T.C_Function) (by rfl) T.g_Function rfl) pa_nil))))) (pss_one (ps_ret (pv 0))) pss_nil)
    (pss_one (ps_ret (pe_make T.k_Function (ok_Function_init T) (hr.mono (by omega)) (by rfl) T.g_Function T.d_Function_init.b .nil pass0 (pa_cons (by exact (fldK K (pv 0) rfl)) (pa_cons (by exact (fldK K (pv 0) rfl)) (pa_cons (by exact (fldK K (pv 0) rfl)) pa_nil))))))), ?_⟩
  walk_at "r"
  refine ⟨.ref a, .ref T.C_Function, .ref T.C_Function, .ref T.C_Function, true, rfl, .own _, .base (.ins fa' T.c_Function I.ha I.hn I.ht I.hm), kit_self, ?_⟩
  walk_at "r"
  refine a_get T.c_Function T.n_Function_name fa' (fn_name _ _ _) ?_
  walk_at "r"
  refine a_get T.c_Function T.n_Function_params fa' (fn_params _ _ _) ?_
  walk_at "r"
  refine a_get T.c_Function T.n_Function_body fa' (fn_body _ _ _) ?_
  walk_at "r"
  refine a_new fun x xd H1 n1 n2 n3 e1 f1 f2 => ?_
  have nx := al.nin n1
  have nd := al.nin n2
  have E1 : Ex (dl S H) (dl (x :: xd :: S) H1) := fun b o z => by
    by_cases h : b ∈ S
    · rw [dl_in h] at z
      cases z
    · rw [dl_nin h] at z
      rw [dl_nin (by
        intro k
        rcases List.mem_cons.mp k with k | k
        · rw [k, n1] at z; cases z
        rcases List.mem_cons.mp k with k | k
        · rw [k, n2] at z; cases z
        · exact h k)]
      exact e1 b o z
  refine ⟨x :: xd :: S, x, xd, nv, p1, p2, f, rfl, ((al.ex e1).cons f2).cons f1, List.mem_cons_self .., f1, ds_ex hn E1, hp.dl.up E1, hb.dl.up E1, fun q1 q2 ys1 ys2 H2 k2 m1 m2 nq g0 g1 g2 D1 D2 => ?_⟩
  have E2 : Ex (dl (x :: xd :: S) H2) (dl S H2) := dl_sub fun b k => List.mem_cons_of_mem _ (List.mem_cons_of_mem _ k)
  have E3 : Ex (dl (x :: xd :: S) H1) (dl (x :: xd :: S) H2) := dl_ks fun b o hb z => k2 b o (fun c => hb (by rw [List.mem_singleton] at c; rw [c]; exact List.mem_cons_self ..)) z
  have eH : Ex H H2 := fun b o z => k2 b o (fun c => by rw [List.mem_singleton] at c; rw [c, n1] at z; cases z) (e1 b o z)
  have al2 := al.ex e1
  refine ⟨rfl, q x H2 n1 eH ⟨xd, nv, q1, q2, dl_at nx g0, ds_ex hn (E1.trans (E3.trans E2)), ⟨⟨ys1, dl_at (al2.nin m1) g1, dpa_ex E2 D1⟩, hp.sm, hp.le⟩, ⟨⟨ys2, dl_at (al2.nin m2) g2, dpa_ex E2 D2⟩, hb.sm, hb.le⟩⟩ ⟨x, xd, nv, q1, q2, rfl, n1, g0, ex_none e1 m1, ex_none e1 m2⟩⟩
theorem ok_copied_functions (T : Tx K mg) : FnOk P w K mg base CX0 7 T.a_copied_functions T.e_copied_functions p_copied_functions (pCfs K T.C_Function) := by
  refine T.d_copied_functions.F.ok sc_copied_functions (fun vs H Q E h => ?_) (fun cdv A outer s H vs Q E hr h => ?_)
  · obtain ⟨S, p, xs, fs, rfl, _⟩ := h
    rfl
  obtain ⟨S, p, xs, fs, rfl, al, hL, hF, hz, q⟩ := h
  have hl := hF.len
  refine ⟨_, (pss_cons (ps_if (pt_cmpR k_notTy (pe_callTy (typK K) (by rfl) T.b_type (by decide +kernel) (pa_cons (pv 0) pa_nil)) (pe_bltn (v := .ty "list") (by rfl) T.b_list (by decide +kernel) rfl) (nomark _)) (pss_one (ps_ret (pv 0))) pss_nil)
    (pss_one (ps_ret (pe_lc (own := [("function", 1)]) (g := gName 1) rfl sc_copied_functions.nd  (plK K (pv 0)) (blkOk_by (own := [("function", 1)]) (N := n_copied_functions) (sc := defScope s_copied_functions) (by decide +kernel)) (fun _ _ _ _ _ => (pg_name (i := 1) sc_copied_functions.nd rfl (Or.inl rfl))) (fun _ _ _ _ _ => pts_nil) (fun _ _ _ _ _ => (pe_call (ok_copied_function T) (hr.mono (by omega)) (by rfl) T.d_copied_function.m T.d_copied_function.F.kp T.d_copied_function.b .nil pass0 (pa_cons (pv 1) pa_nil))))))), ?_⟩
  walk_at "r"
  refine ⟨.ref p, _, rfl, .lst (sl_dl hL), ?_⟩
  walk_at "r"
  refine ite2 (fun c => absurd c (by decide)) (fun _ => ?_)
  walk_at "r"
  refine c_L (sl_dl hL) ?_
  refine cp_list (xs := xs) (fun l k h => Ex H h ∧ Al (l :: S) h ∧ ∃ ys, h l = some (.lst ys) ∧ FnAll K T.C_Function (dl (l :: S) h) ys (fs.take k) ∧ ∀ v ∈ ys, NewF T.C_Function H h v)
    (fun l n => ⟨Ex.new n, (al.ex (Ex.new n)).cons upd_same, [], upd_same, .nil, fun v hv => by cases hv⟩) (fun l k h _ _ g => ex_sl (sl_dl hL) g.1) ?_ ?_
  · rintro l k x h nl hx ⟨e, al2, ys, f, fD, nw⟩
    obtain ⟨a, fd, rfl, hd', dx⟩ := hF.get hx
    have hk := at_lt hx
    have yl := fD.len
    rw [take_len hd'] at yl
    walk_at "r"
    refine ⟨rfl, ?_⟩
    walk_at "r"
    refine ⟨l :: S, a, fd, rfl, al2, dx.up (dl_new nl e), fun b H1 n1 e1 f1 nf => ?_⟩
    refine ⟨ys, e1 _ _ f, sz_lt (by omega), (e.trans e1).mut nl, (al2.ex e1).upd, ys ++ [.ref b], upd_same, ?_, fun v hv => ?_⟩
    · rw [dl_upd (List.mem_cons_self ..), take_snoc hd']
      exact FnAll.snoc f1 (fD.up (dl_ex e1))
    · rcases List.mem_append.mp hv with hv | hv
      · exact ((nw v hv).up e1).mut (e1 _ _ f)
      · rw [List.mem_singleton] at hv
        rw [hv]
        exact (nf.down e).mut (e1 _ _ f)
  · rintro l h nl ⟨e, al2, ys, f, fD, nw⟩
    rw [hl, List.take_length] at fD
    walk_at "r"
    exact q l ys h nl e f (fD.up (dl_sub (fun a k => List.mem_cons_of_mem _ k))) nw
theorem ok_are_statements (T : Tx K mg) : FnOk P w K mg base CX0 6 T.a_are_statements T.e_are_statements p_are_statements (pSts K) := by
  refine T.d_are_statements.F.ok sc_are_statements (fun vs H Q E h => ?_) (fun cdv A outer s H vs Q E hr h => ?_)
  · obtain ⟨p, ds, m, rfl, _⟩ := h
    rfl
  obtain ⟨p, ds, m, rfl, ⟨⟨xs, hL, hD⟩, hs, hz⟩, q⟩ := h
  have hl := dpa_len hD
  refine ⟨_, (pss_cons (ps_if (PW.pt (pw_or (pt_cmpR k_notTy (pe_callTy (typK K) (by rfl) T.b_type (by decide +kernel) (pa_cons (pv 0) pa_nil)) (pe_bltn (v := .ty "list") (by rfl) T.b_list (by decide +kernel) rfl) (nomark _)) (pw_or1 (pt_cmpR op_gt (pe_callB (lenK K) (by rfl) T.b_len PySem.boot_len (pa_cons (pv 0) pa_nil)) (pv 1) (nomark _))))) (pss_one (ps_ret pe_bl)) pss_nil)
    (pss_one (ps_ret (pe_callB (allK K) (by rfl) T.b_all (by decide +kernel) (pa_cons (pe_lc (own := [("part", 2)]) (g := gName 2) rfl sc_are_statements.nd  (plK K (pv 0)) (blkOk_by (own := [("part", 2)]) (N := n_are_statements) (sc := defScope s_are_statements) (by decide +kernel)) (fun _ _ _ _ _ => (pg_name (i := 2) sc_are_statements.nd rfl (Or.inl rfl))) (fun _ _ _ _ _ => pts_nil) (fun _ _ _ _ _ => (pe_call (ok_is_statement T) (hr.mono (by omega)) (by rfl) T.d_is_statement.m T.d_is_statement.F.kp T.d_is_statement.b .nil pass0 (pa_cons (pv 2) pa_nil)))) pa_nil))))), ?_⟩
  walk_at "r"
  refine ⟨.ref p, _, rfl, .lst hL, ?_⟩
  walk_at "r"
  refine ite2 (fun c => absurd c (by decide)) (fun _ => ?_)
  walk_at "r"
  refine a_lenL hL ?_
  walk_at "r"
  refine ite2 (fun c => ?_) (fun c => ?_)
  · have c' := of_decide_eq_true c
    have g := q H (Ex.refl _)
    unfold stsD at g
    rw [decide_eq_false (show ¬ ds.length ≤ m by omega)] at g
    walk_at "r"
    exact g
  have c' := of_decide_eq_false (nf c)
  walk_at "r"
  refine c_L hL ?_
  refine cp_list (xs := xs) (fun l k h => Ex H h ∧ h l = some (.lst (((ds.take k).map stmtD).map V.bl))) (fun l n => ⟨Ex.new n, upd_same⟩) (fun l k h _ _ g => ex_sl hL g.1) ?_ ?_
  · rintro l k x h nl hx ⟨e, f⟩
    obtain ⟨d, hd', dx⟩ := ds_at hD hs hx
    have hk := at_lt hx
    walk_at "r"
    refine ⟨rfl, ?_⟩
    walk_at "r"
    refine ⟨x, d, rfl, ds_ex dx e, fun H1 e1 => ?_⟩
    refine ⟨_, e1 _ _ f, sz_lt (by rw [bools_len]; omega), (e.trans e1).mut nl, ?_⟩
    rw [upd_same, bools_snoc stmtD hd']
  · rintro l h nl ⟨e, f⟩
    walk_at "r"
    rw [hl, List.take_length] at f
    refine ⟨l, _, rfl, SqL.of f, ?_⟩
    have g := q h e
    unfold stsD at g
    rw [decide_eq_true (show ds.length ≤ m by omega)] at g
    rw [bools_all]
    exact g
theorem ok_is_function (T : Tx K mg) : FnOk P w K mg base CX0 7 T.a_is_function T.e_is_function p_is_function (pIf K T.C_Function) := by
  refine T.d_is_function.F.ok sc_is_function (fun vs H Q E h => ?_) (fun cdv A outer s H vs Q E hr h => ?_)
  · obtain ⟨a, f, rfl, _⟩ := h
    rfl
  obtain ⟨a, f, rfl, hf, q⟩ := h
  obtain ⟨dx, nv, p1, p2, fa, hn, hp, hb⟩ := hf.ex
  obtain ⟨xs, hL, hD⟩ := hp.dl.ex
  have hl := dpa_len hD
  have I := T.i_Function
  have e0 : fnD f = (nameD f.n && (decide (f.p.length ≤ 4) && f.p.all declD) && stsD 12 f.b) := rfl
  refine ⟨_, (pss_cons (ps_if (PW.pt (pw_or (pt_not (pt_val (pe_callB (isiK K) (by rfl) T.b_isinstance (by decide +kernel) (pa_cons (pv 0) (pa_cons (pe_glob (v := .ref T.C_Function) (by rfl) T.g_Function rfl) pa_nil))))) (pw_or1 (pt_not (pt_val (pe_call (ok_is_name T) (hr.mono (by omega)) (by rfl) T.d_is_name.m T.d_is_name.F.kp T.d_is_name.b .nil pass0 (pa_cons (by exact (fldK K (pv 0) rfl)) pa_nil))))))) (pss_one (ps_ret pe_bl)) pss_nil)
    (pss_cons (ps_if (PW.pt (pw_or (pt_cmpR k_notTy (pe_callTy (typK K) (by rfl) T.b_type (by decide +kernel) (pa_cons (by exact (fldK K (pv 0) rfl)) pa_nil)) (pe_bltn (v := .ty "list") (by rfl) T.b_list (by decide +kernel) rfl) (nomark _)) (pw_or1 (pt_cmpR op_gt (pe_callB (lenK K) (by rfl) T.b_len PySem.boot_len (pa_cons (by exact (fldK K (pv 0) rfl)) pa_nil)) (pe_glob (v := .int 4) (by rfl) T.m_MOST_PARAMS ⟨_, rfl⟩) (nomark _))))) (pss_one (ps_ret pe_bl)) pss_nil)
    (pss_cons (ps_if (pt_not (pt_val (pe_callB (allK K) (by rfl) T.b_all (by decide +kernel) (pa_cons (pe_lc (own := [("param", 1)]) (g := gName 1) rfl sc_is_function.nd  (plK K (by exact (fldK K (pv 0) rfl))) (blkOk_by (own := [("param", 1)]) (N := n_is_function) (sc := defScope s_is_function) (by decide +kernel)) (fun _ _ _ _ _ => (pg_name (i := 1) sc_is_function.nd rfl (Or.inl rfl))) (fun _ _ _ _ _ => pts_nil) (fun _ _ _ _ _ => (pe_call (ok_is_declared T) (hr.mono (by omega)) (by rfl) T.d_is_declared.m T.d_is_declared.F.kp T.d_is_declared.b .nil pass0 (pa_cons (pv 1) pa_nil)))) pa_nil)))) (pss_one (ps_ret pe_bl)) pss_nil)
    (pss_one (ps_ret (pe_call (ok_are_statements T) (hr.mono (by omega)) (by rfl) T.d_are_statements.m T.d_are_statements.F.kp T.d_are_statements.b .nil pass0 (pa_cons (by exact (fldK K (pv 0) rfl)) (pa_cons (pe_glob (v := .int 12) (by rfl) T.m_MOST_IN_BODY ⟨_, rfl⟩) pa_nil)))))))), ?_⟩
  walk_at "r"
  refine ⟨.ref a, .ref T.C_Function, .ref T.C_Function, .ref T.C_Function, true, rfl, .own _, .base (.ins fa T.c_Function I.ha I.hn I.ht I.hm), kit_self, ?_⟩
  walk_at "r"
  refine a_get T.c_Function T.n_Function_name fa (fn_name _ _ _) ?_
  walk_at "r"
  refine ⟨nv, f.n, rfl, hn, fun H1 e1 => ?_⟩
  have g1 := q H1 e1
  rw [e0] at g1
  walk_at "r"
  refine ite2 (fun c => ?_) (fun c => ?_)
  · have c' : nameD f.n = false := by
      cases z : nameD f.n with
      | true => rw [z] at c; cases c
      | false => rfl
    rw [c'] at g1
    walk_at "r"
    exact g1
  have c1 : nameD f.n = true := by
    cases z : nameD f.n with
    | true => rfl
    | false => rw [z] at c; exact absurd rfl c
  rw [c1] at e0 g1
  walk_at "r"
  refine a_get T.c_Function T.n_Function_params (e1 _ _ fa) (fn_params _ _ _) ?_
  walk_at "r"
  refine ⟨.ref p1, _, rfl, .lst (ex_sl hL e1), ?_⟩
  walk_at "r"
  refine ite2 (fun c => absurd c (by decide)) (fun _ => ?_)
  walk_at "r"
  refine a_get T.c_Function T.n_Function_params (e1 _ _ fa) (fn_params _ _ _) ?_
  walk_at "r"
  refine a_lenL (ex_sl hL e1) ?_
  walk_at "r"
  refine ite2 (fun c => ?_) (fun c => ?_)
  · have c' := of_decide_eq_true c
    rw [decide_eq_false (show ¬ f.p.length ≤ 4 by omega)] at g1
    walk_at "r"
    exact g1
  have c2 := of_decide_eq_false (nf c)
  rw [decide_eq_true (show f.p.length ≤ 4 by omega)] at e0
  walk_at "r"
  refine a_get T.c_Function T.n_Function_params (e1 _ _ fa) (fn_params _ _ _) ?_
  walk_at "r"
  refine c_L (ex_sl hL e1) ?_
  refine cp_list (xs := xs) (fun l k h => Ex H1 h ∧ h l = some (.lst (((f.p.take k).map declD).map V.bl))) (fun l n => ⟨Ex.new n, upd_same⟩) (fun l k h _ _ g => ex_sl hL (e1.trans g.1)) ?_ ?_
  · rintro l k x h nl hx ⟨e, g⟩
    obtain ⟨d, hd', dx⟩ := ds_at hD hp.sm hx
    have hk := at_lt hx
    walk_at "r"
    refine ⟨rfl, ?_⟩
    walk_at "r"
    refine ⟨x, d, rfl, ds_ex dx (e1.trans e), fun H2 e2 => ?_⟩
    refine ⟨_, e2 _ _ g, sz_lt (by rw [bools_len]; omega), (e.trans e2).mut nl, ?_⟩
    rw [upd_same, bools_snoc declD hd']
  · rintro l h nl ⟨e, g⟩
    have eh := e1.trans e
    walk_at "r"
    rw [hl, List.take_length] at g
    refine ⟨l, _, rfl, SqL.of g, ?_⟩
    rw [bools_all]
    have g2 := q h eh
    rw [e0] at g2
    walk_at "r"
    refine ite2 (fun c => ?_) (fun c => ?_)
    · have c' : f.p.all declD = false := by
        cases z : f.p.all declD with
        | true => rw [z] at c; cases c
        | false => rfl
      rw [c'] at g2
      walk_at "r"
      exact g2
    have c3 : f.p.all declD = true := by
      cases z : f.p.all declD with
      | true => rfl
      | false => rw [z] at c; exact absurd rfl c
    rw [c3] at e0
    walk_at "r"
    refine a_get T.c_Function T.n_Function_body (eh _ _ fa) (fn_body _ _ _) ?_
    walk_at "r"
    refine ⟨p2, f.b, 12, rfl, hb.dl.up eh, fun H3 e3 => ?_⟩
    have g3 := q H3 (eh.trans e3)
    rw [e0] at g3
    exact g3
end
section
variable {P : Program} {w : World} {K : PySem.W.Frag} {mg : Str → Option Value} {base : Heap}
theorem ok_declared_by_lets (T : Tx K mg) : FnOk P w K mg base CX0 1 T.a_declared_by_lets T.e_declared_by_lets p_declared_by_lets (pLets K) := by
  refine T.d_declared_by_lets.F.ok sc_declared_by_lets (fun vs H Q E h => ?_) (fun cdv A outer s H vs Q E hr h => ?_)
  · obtain ⟨S, p, ds, rfl, _⟩ := h
    rfl
  obtain ⟨S, p, ds, rfl, al, ⟨⟨xs, hL, hD⟩, hs, hz⟩, so, q⟩ := h
  have hl := dpa_len hD
  refine ⟨_, (pss_one (ps_ret (pe_lc (own := [("statement", 1)]) (g := gName 1) rfl sc_declared_by_lets.nd  (plK K (pv 0)) (blkOk_by (own := [("statement", 1)]) (N := n_declared_by_lets) (sc := defScope s_declared_by_lets) (by decide +kernel)) (fun _ _ _ _ _ => (pg_name (i := 1) sc_declared_by_lets.nd rfl (Or.inl rfl))) (fun _ _ _ _ _ => (pts_one (pt_cmpR op_eq (pe_ix (ixT K) (pv 1) pe_int (fun _ _ => rfl)) pe_str (nomark _)))) (fun _ _ _ _ _ => (pe_slice (slA K) (pv 1) (po_some pe_int) (po_some pe_int)))))), ?_⟩
  walk_at "r"
  refine c_L (sl_dl hL) ?_
  refine cp_list (xs := xs) (fun l k h => Ex H h ∧ Al (l :: S) h ∧ ∃ ys, h l = some (.lst ys) ∧ DpAll K (dl (l :: S) h) ys (letsD (ds.take k)))
    (fun l n => ⟨Ex.new n, (al.ex (Ex.new n)).cons upd_same, [], upd_same, .nil⟩) (fun l k h _ _ g => ex_sl (sl_dl hL) g.1) ?_ ?_
  · rintro l k x h nl hx ⟨e, al2, ys, f, fD⟩
    obtain ⟨d, hd', dx⟩ := ds_at hD hs hx
    have hk := at_lt hx
    have yl := dpa_len fD
    have yl2 := lets_len (ds.take k)
    rw [take_len hd'] at yl2
    obtain ⟨es, o⟩ := st_ok (all_at so hd')
    obtain ⟨p2, xs2, ds2, rfl, e2, hT, hD2, hs2, hl2⟩ := ds_tup dx (by rw [o.e]; rfl)
    cases o.e.symm.trans e2
    have ow := o.w
    have on := o.ne
    have ol := o.lt
    rw [← e2] at ow
    walk_at "r"
    refine ⟨rfl, ?_⟩
    walk_at "r"
    refine a_nthS (i := 0) (ex_st (st_dl hT) e) (dpa_ex ((dl_le S H).trans e) hD2) hs2 on fun v0 d0 => ?_
    rw [← e2, ow] at d0
    cases dp_str d0.1
    walk_at "r"
    refine ite2 (fun c => ?_) (fun c => ?_)
    · have c' := of_decide_eq_true c
      have h4 := (ol c').1
      walk_at "r"
      refine a_sl13 (ex_st (st_dl hT) e) (by omega) fun t H1 n1 e1 f1 => ?_
      refine ⟨ys, e1 _ _ f, sz_lt (by omega), (e.trans e1).mut nl, (al2.ex e1).upd, ys ++ [.ref t], upd_same, ?_⟩
      rw [dl_upd (List.mem_cons_self ..), take_snoc hd', lets_snoc, if_pos c']
      refine dpa_snoc (dpa_ex (dl_ex e1) fD) ?_
      rw [e2]
      exact .tup (SqT.of (dl_at (al2.nin n1) f1)) (dpa_ex ((dl_new nl e).trans (dl_ex e1)) (dpa_take 2 (dpa_drop 1 hD2)))
    · have c' := of_decide_eq_false (nf c)
      refine ⟨e, al2, ys, f, ?_⟩
      rw [take_snoc hd', lets_snoc, if_neg c', List.append_nil]
      exact fD
  · rintro l h nl ⟨e, al2, ys, f, fD⟩
    rw [hl, List.take_length] at fD
    walk_at "r"
    exact q l ys h nl e f (dpa_ex (dl_sub (fun a k => List.mem_cons_of_mem _ k)) fD)
theorem ok_declared (T : Tx K mg) : FnOk P w K mg base CX0 2 T.a_declared T.e_declared p_declared (pDecl K T.C_Function) := by
  refine T.d_declared.F.ok sc_declared (fun vs H Q E h => ?_) (fun cdv A outer s H vs Q E hr h => ?_)
  · obtain ⟨S, pf, ps, fs, ss, rfl, _⟩ := h
    rfl
  obtain ⟨S, pf, ps, fs, ss, rfl, al, ⟨⟨xs, hL, hF⟩, hsx, fo, so, f4, s40⟩, q⟩ := h
  have hl := hF.len
  refine ⟨_, (pss_cons (ps_set (i := 2) sc_declared.nd rfl (.inl rfl) (pe_lst pa_nil))
    (pss_cons (ps_for PassesOwn.never rfl (plK K (pv 0)) (pg_name (i := 3) sc_declared.nd rfl (.inl rfl)) (pss_cons (ps_expr (pe_bm PySem.F.plainAttrs_list PySem.F.slot_list_extend PySem.F.type_list_extend mt_extend (pv 2) (pa_cons (by exact (fldK K (pv 3) rfl)) pa_nil)))
    (pss_one (ps_expr (pe_bm PySem.F.plainAttrs_list PySem.F.slot_list_extend PySem.F.type_list_extend mt_extend (pv 2) (pa_cons (pe_call (ok_declared_by_lets T) (hr.mono (by omega)) (by rfl) T.d_declared_by_lets.m T.d_declared_by_lets.F.kp T.d_declared_by_lets.b .nil pass0 (pa_cons (by exact (fldK K (pv 3) rfl)) pa_nil)) pa_nil))))))
    (pss_cons (ps_expr (pe_bm PySem.F.plainAttrs_list PySem.F.slot_list_extend PySem.F.type_list_extend mt_extend (pv 2) (pa_cons (pe_call (ok_declared_by_lets T) (hr.mono (by omega)) (by rfl) T.d_declared_by_lets.m T.d_declared_by_lets.F.kp T.d_declared_by_lets.b .nil pass0 (pa_cons (pv 1) pa_nil)) pa_nil)))
    (pss_one (ps_ret (pv 2)))))), ?_⟩
  walk_at "r"
  refine new_lst (xs := []) (by simp) fun p H1 n1 e1 f1 => ?_
  have al1 := (al.ex e1).cons f1
  walk_at "r"
  refine r_L (ex_sl (sl_dl hL) e1) ?_
  refine lp_list (xs := xs) (fun k σ h => (∃ z, σ = [some (.ref pf), some (.ref ps), some (.ref p), z]) ∧ Ex H h ∧ Al (p :: S) h ∧ ∃ ys, h p = some (.lst ys) ∧ DpAll K (dl (p :: S) h) ys (declsF (fs.take k)))
    ⟨⟨_, rfl⟩, e1, al1, [], f1, .nil⟩ (fun k σ h _ g => ex_sl (sl_dl hL) g.2.1) ?_ ?_
  · rintro k x σ h hx ⟨⟨z, rfl⟩, e, al2, ys, f, fD⟩
    obtain ⟨a, fd, rfl, hd', hfx⟩ := hF.get hx
    obtain ⟨dx, nv, q1, q2, fa, hn, hp, hb⟩ := hfx.ex
    have hk := at_lt hx
    have fok := fn_le (all_at fo hd')
    have yl := dpa_len fD
    have yle : (declsF (fs.take k)).length ≤ 16 * (fs.take k).length := declsF_le (List.all_eq_true.mpr fun a b => List.all_eq_true.mp fo a (List.mem_of_mem_take b))
    rw [take_len hd'] at yle
    obtain ⟨zs, gq, gD⟩ := hp.ex
    have zl := dpa_len gD
    walk_at "r"
    refine ⟨a_ty f, ?_⟩
    walk_at "r"
    refine a_get T.c_Function T.n_Function_params (e _ _ (dl_le S H _ _ fa)) (fn_params _ _ _) ?_
    walk_at "r"
    refine a_extend f (e _ _ (dl_le S H _ _ gq)) (by omega) ?_
    have g2 : DpAll K (dl (p :: S) (upd h p (.lst (ys ++ zs)))) (ys ++ zs) (declsF (fs.take k) ++ fd.p) := by
      rw [dl_upd (List.mem_cons_self ..)]
      exact dpa_app fD (dpa_ex (dl_new n1 e) gD)
    have e2 : Ex H (upd h p (.lst (ys ++ zs))) := e.mut n1
    have al3 : Al (p :: S) (upd h p (.lst (ys ++ zs))) := al2.upd
    have f2 : (upd h p (.lst (ys ++ zs))) p = some (.lst (ys ++ zs)) := upd_same
    generalize upd h p (.lst (ys ++ zs)) = h2 at g2 e2 al3 f2 ⊢
    walk_at "r"
    refine ⟨a_ty f2, ?_⟩
    walk_at "r"
    refine a_get T.c_Function T.n_Function_body (e2 _ _ (dl_le S H _ _ fa)) (fn_body _ _ _) ?_
    walk_at "r"
    refine ⟨p :: S, q2, fd.b, rfl, al3, hb.dl.up (dl_new n1 e2), fok.2.2.2.2, fun t ts H3 n3 e3 f3 D3 => ?_⟩
    have tl := dpa_len D3
    have tl2 := lets_len fd.b
    walk_at "r"
    refine a_extend (e3 _ _ f2) f3 (by rw [List.length_append]; omega) ?_
    walk_at "r"
    refine ⟨⟨_, rfl⟩, (e2.trans e3).mut n1, (al3.ex e3).upd, _, upd_same, ?_⟩
    rw [dl_upd (List.mem_cons_self ..), take_snoc hd', declsF_snoc, List.append_assoc]
    rw [← List.append_assoc, List.append_assoc ys, ← List.append_assoc]
    rw [← List.append_assoc (declsF _)]
    exact dpa_app (dpa_ex (dl_ex e3) g2) D3
  · rintro σ h ⟨⟨z, rfl⟩, e, al2, ys, f, fD⟩
    rw [hl, List.take_length] at fD
    have yl := dpa_len fD
    have yle := declsF_le fo
    walk_at "r"
    refine ⟨a_ty f, ?_⟩
    walk_at "r"
    refine ⟨p :: S, ps, ss, rfl, al2, hsx.up (dl_new n1 e), so, fun t ts H3 n3 e3 f3 D3 => ?_⟩
    have tl := dpa_len D3
    have tl2 := lets_len ss
    walk_at "r"
    refine a_extend (e3 _ _ f) f3 (by omega) ?_
    walk_at "r"
    refine q p _ _ n1 ((e.trans e3).mut n1) upd_same ?_
    have E : Ex (dl (p :: S) (upd H3 p (.lst (ys ++ ts)))) (dl S (upd H3 p (.lst (ys ++ ts)))) := dl_sub fun a k => List.mem_cons_of_mem _ k
    refine dpa_ex E ?_
    rw [dl_upd (List.mem_cons_self ..)]
    exact dpa_app (dpa_ex (dl_ex e3) fD) D3
theorem ok_all_names (T : Tx K mg) : FnOk P w K mg base CX0 3 T.a_all_names T.e_all_names p_all_names (pNames K T.C_Function) := by
  refine T.d_all_names.F.ok sc_all_names (fun vs H Q E h => ?_) (fun cdv A outer s H vs Q E hr h => ?_)
  · obtain ⟨S, pf, ps, fs, ss, rfl, _⟩ := h
    rfl
  obtain ⟨S, pf, ps, fs, ss, rfl, al, hpg, q⟩ := h
  obtain ⟨⟨xs, hL, hF⟩, hsx, fo, so, f4, s40⟩ := id hpg
  have hl := hF.len
  refine ⟨_, (pss_cons (ps_setLc (i := 2) (own := [("function", 3)]) (g := gName 3) rfl sc_all_names.nd rfl rfl (sw_true rfl rfl rfl (by decide +kernel)) (plK K (pv 0)) (blkOk_by (own := [("function", 3)]) (N := n_all_names) (sc := defScope s_all_names) (by decide +kernel)) (fun _ _ _ _ _ => (pg_name (i := 3) sc_all_names.nd rfl (Or.inl rfl))) (fun _ _ _ _ _ => pts_nil) (fun _ _ _ _ _ => (by exact (fldK K (pv 3) rfl))))
    (pss_one (ps_ret (pe_op op_cat (pv 2) (pe_lc (own := [("name", 4), ("_", 5)]) (g := gTup K 2 (gCons (gName 4) (gCons (gName 5) (gNil)))) rfl sc_all_names.nd  (plK K (pe_call (ok_declared T) (hr.mono (by omega)) (by rfl) T.d_declared.m T.d_declared.F.kp T.d_declared.b .nil pass0 (pa_cons (pv 0) (pa_cons (pv 1) pa_nil)))) (blkOk_by (own := [("name", 4), ("_", 5)]) (N := n_all_names) (sc := defScope s_all_names) (by decide +kernel)) (fun _ _ _ _ _ => (pg_tup (by rfl) (pgs_cons (pg_name (i := 4) sc_all_names.nd rfl (Or.inl rfl)) (pgs_cons (pg_name (i := 5) sc_all_names.nd rfl (Or.inl rfl)) pgs_nil)))) (fun _ _ _ _ _ => pts_nil) (fun _ _ _ _ _ => (pv 4))))))), ?_⟩
  walk_at "r"
  refine c_L (sl_dl hL) ?_
  refine cp_list (xs := xs) (fun l k h => Ex H h ∧ h l = some (.lst (((fs.take k).map fun f => strD f.n).map V.str))) (fun l n => ⟨Ex.new n, upd_same⟩) (fun l k h _ _ g => ex_sl (sl_dl hL) g.1) ?_ ?_
  · rintro l k x h nl hx ⟨e, f⟩
    obtain ⟨a, fd, rfl, hd', hfx⟩ := hF.get hx
    obtain ⟨dx, nv, q1, q2, fa, hn, hp, hb⟩ := hfx.ex
    have hk := at_lt hx
    have nm := name_str (fn_le (all_at fo hd')).2.2.1
    rw [nm.1] at hn
    cases dp_str hn.1
    walk_at "r"
    refine ⟨rfl, ?_⟩
    walk_at "r"
    refine a_get T.c_Function T.n_Function_name (e _ _ (dl_le S H _ _ fa)) (fn_name _ _ _) ?_
    refine ⟨_, f, sz_lt (by rw [List.length_map, List.length_map, List.length_take]; omega), e.mut nl, ?_⟩
    rw [upd_same, take_snoc hd', List.map_append, List.map_append]
    rfl
  · rintro l h nl ⟨e, f⟩
    rw [hl, List.take_length] at f
    walk_at "r"
    refine ⟨S, pf, ps, fs, ss, rfl, al.ex e, hpg.up (dl_ex e), fun t ts H2 n2 e2 f2 D2 => ?_⟩
    have tl := dpa_len D2
    have tle := decls_le fo f4 s40
    have dok := decls_ok fo so
    walk_at "r"
    refine c_L (SqL.of f2) ?_
    refine cp_list (xs := ts) (fun l2 k h2 => Ex H2 h2 ∧ h2 l2 = some (.lst ((((declsD fs ss).take k).map fun d => strD (nthD d 0)).map V.str))) (fun l n => ⟨Ex.new n, upd_same⟩) (fun l k h _ _ g => SqL.of (g.1 _ _ f2)) ?_ ?_
    · rintro l2 k x h2 nl2 hx ⟨e3, f3⟩
      obtain ⟨d, hd', dx⟩ := dpa_at D2 hx
      have hk := at_lt hx
      obtain ⟨es, o⟩ := pr_ok (all_at dok hd')
      rw [o.e] at dx
      obtain ⟨p2, xs2, rfl, hT, hD2⟩ := dp_tup dx
      obtain ⟨u, v, rfl, du, dv⟩ := dpa_two hD2 o.l
      have nm := name_str o.n
      rw [nm.1] at du
      cases dp_str du
      refine w_gtup (ex_st (st_dl hT) e3) rfl ?_
      walk_at "r"
      refine ⟨rfl, ?_⟩
      walk_at "r"
      refine ⟨_, f3, sz_lt (by rw [List.length_map, List.length_map, List.length_take]; omega), e3.mut nl2, ?_⟩
      rw [upd_same, take_snoc hd', List.map_append, List.map_append, o.e]
      rfl
    · rintro l2 h2 nl2 ⟨e3, f3⟩
      rw [tl, List.take_length] at f3
      walk_at "r"
      refine a_cat ((e2.trans e3) _ _ f) f3 (by rw [List.length_map, List.length_map, List.length_map, List.length_map]; omega) fun r H4 n4 e4 f4' => ?_
      have eH : Ex H h2 := (e.trans e2).trans e3
      refine q r H4 ?_ (eH.trans e4) ?_
      · cases z : H r with
        | none => rfl
        | some o => rw [eH _ _ z] at n4; cases n4
      · rw [f4']
        unfold namesD
        rw [List.map_append]
theorem ok_all_kinds (T : Tx K mg) : FnOk P w K mg base CX0 3 T.a_all_kinds T.e_all_kinds p_all_kinds (pKinds K T.C_Function) := by
  refine T.d_all_kinds.F.ok sc_all_kinds (fun vs H Q E h => ?_) (fun cdv A outer s H vs Q E hr h => ?_)
  · obtain ⟨S, pf, ps, fs, ss, rfl, _⟩ := h
    rfl
  obtain ⟨S, pf, ps, fs, ss, rfl, al, hpg, q⟩ := h
  obtain ⟨⟨xs, hL, hF⟩, hsx, fo, so, f4, s40⟩ := id hpg
  refine ⟨_, (pss_one (ps_ret (pe_lc (own := [("_", 2), ("kind", 3)]) (g := gTup K 2 (gCons (gName 2) (gCons (gName 3) (gNil)))) rfl sc_all_kinds.nd  (plK K (pe_call (ok_declared T) (hr.mono (by omega)) (by rfl) T.d_declared.m T.d_declared.F.kp T.d_declared.b .nil pass0 (pa_cons (pv 0) (pa_cons (pv 1) pa_nil)))) (blkOk_by (own := [("_", 2), ("kind", 3)]) (N := n_all_kinds) (sc := defScope s_all_kinds) (by decide +kernel)) (fun _ _ _ _ _ => (pg_tup (by rfl) (pgs_cons (pg_name (i := 2) sc_all_kinds.nd rfl (Or.inl rfl)) (pgs_cons (pg_name (i := 3) sc_all_kinds.nd rfl (Or.inl rfl)) pgs_nil)))) (fun _ _ _ _ _ => pts_nil) (fun _ _ _ _ _ => (pv 3))))), ?_⟩
  walk_at "r"
  refine ⟨S, pf, ps, fs, ss, rfl, al, hpg, fun t ts H2 n2 e2 f2 D2 => ?_⟩
  have tl := dpa_len D2
  have tle := decls_le fo f4 s40
  have dok := decls_ok fo so
  walk_at "r"
  refine c_L (SqL.of f2) ?_
  refine cp_list (xs := ts) (fun l2 k h2 => Ex H2 h2 ∧ ∃ ys, h2 l2 = some (.lst ys) ∧ DpAll K (dl S H2) ys (((declsD fs ss).take k).map fun d => nthD d 1)) (fun l n => ⟨Ex.new n, [], upd_same, .nil⟩) (fun l k h _ _ g => SqL.of (g.1 _ _ f2)) ?_ ?_
  · rintro l2 k x h2 nl2 hx ⟨e3, ys, f3, fD⟩
    obtain ⟨d, hd', dx⟩ := dpa_at D2 hx
    have hk := at_lt hx
    have yl := dpa_len fD
    rw [List.length_map, take_len hd'] at yl
    obtain ⟨es, o⟩ := pr_ok (all_at dok hd')
    rw [o.e] at dx
    obtain ⟨p2, xs2, rfl, hT, hD2⟩ := dp_tup dx
    obtain ⟨u, v, rfl, du, dv⟩ := dpa_two hD2 o.l
    refine w_gtup (ex_st (st_dl hT) e3) rfl ?_
    walk_at "r"
    refine ⟨rfl, ?_⟩
    walk_at "r"
    refine ⟨ys, f3, sz_lt (by omega), e3.mut nl2, ys ++ [v], upd_same, ?_⟩
    rw [take_snoc hd', List.map_append, o.e]
    exact dpa_snoc fD dv
  · rintro l2 h2 nl2 ⟨e3, ys, f3, fD⟩
    rw [tl, List.take_length] at fD
    walk_at "r"
    refine q l2 ys h2 ?_ (e2.trans e3) f3 (dpa_ex (dl_ex e3) fD)
    cases z : H l2 with
    | none => rfl
    | some o => rw [e2 _ _ z] at nl2; cases nl2
end
section
variable {P : Program} {w : World} {K : PySem.W.Frag} {mg : Str → Option Value} {base : Heap}
theorem ok_are_of_one_kind (T : Tx K mg) : FnOk P w K mg base CX0 4 T.a_are_of_one_kind T.e_are_of_one_kind p_are_of_one_kind (pKind K) := by
  refine T.d_are_of_one_kind.F.ok sc_are_of_one_kind (fun vs H Q E h => ?_) (fun cdv A outer s H vs Q E hr h => ?_)
  · obtain ⟨p, ds, rfl, _⟩ := h
    rfl
  obtain ⟨p, ds, rfl, ⟨⟨xs, hL, hD⟩, hs, hz⟩, q⟩ := h
  have hl := dpa_len hD
  refine ⟨_, (pss_one (ps_ret (pe_or (pe_callB (allK K) (by rfl) T.b_all (by decide +kernel) (pa_cons (pe_lc (own := [("kind", 1)]) (g := gName 1) rfl sc_are_of_one_kind.nd  (plK K (pv 0)) (blkOk_by (own := [("kind", 1)]) (N := n_are_of_one_kind) (sc := defScope s_are_of_one_kind) (by decide +kernel)) (fun _ _ _ _ _ => (pg_name (i := 1) sc_are_of_one_kind.nd rfl (Or.inl rfl))) (fun _ _ _ _ _ => pts_nil) (fun _ _ _ _ _ => (pe_call (ok_is_type T) (hr.mono (by omega)) (by rfl) T.d_is_type.m T.d_is_type.F.kp T.d_is_type.b .nil pass0 (pa_cons (pv 1) pa_nil)))) pa_nil)) (pe_one (pe_callB (allK K) (by rfl) T.b_all (by decide +kernel) (pa_cons (pe_lc (own := [("kind", 1)]) (g := gName 1) rfl sc_are_of_one_kind.nd  (plK K (pv 0)) (blkOk_by (own := [("kind", 1)]) (N := n_are_of_one_kind) (sc := defScope s_are_of_one_kind) (by decide +kernel)) (fun _ _ _ _ _ => (pg_name (i := 1) sc_are_of_one_kind.nd rfl (Or.inl rfl))) (fun _ _ _ _ _ => pts_nil) (fun _ _ _ _ _ => (pe_call (ok_is_depth T) (hr.mono (by omega)) (by rfl) T.d_is_depth.m T.d_is_depth.F.kp T.d_is_depth.b .nil pass0 (pa_cons (pv 1) pa_nil)))) pa_nil)))))), ?_⟩
  walk_at "r"
  refine c_L hL ?_
  refine cp_list (xs := xs) (fun l k h => Ex H h ∧ h l = some (.lst (((ds.take k).map typD).map V.bl))) (fun l n => ⟨Ex.new n, upd_same⟩) (fun l k h _ _ g => ex_sl hL g.1) ?_ ?_
  · rintro l k x h nl hx ⟨e, f⟩
    obtain ⟨d, hd', dx⟩ := ds_at hD hs hx
    have hk := at_lt hx
    walk_at "r"
    refine ⟨rfl, ?_⟩
    walk_at "r"
    refine ⟨x, d, rfl, ds_ex dx e, fun H1 e1 => ?_⟩
    refine ⟨_, e1 _ _ f, sz_lt (by rw [bools_len]; omega), (e.trans e1).mut nl, ?_⟩
    rw [upd_same, bools_snoc typD hd']
  rintro l h nl ⟨e, f⟩
  walk_at "r"
  rw [hl, List.take_length] at f
  refine ⟨l, _, rfl, SqL.of f, ?_⟩
  rw [bools_all]
  have g := q h e
  unfold kindD at g
  walk_at "r"
  refine ite2 (fun c => ?_) (fun c => ?_)
  · rw [c] at g
    exact g
  walk_at "r"
  refine c_L (ex_sl hL e) ?_
  refine cp_list (xs := xs) (fun l k h2 => Ex h h2 ∧ h2 l = some (.lst (((ds.take k).map fun d => numD d 5).map V.bl))) (fun l n => ⟨Ex.new n, upd_same⟩) (fun l k h _ _ g => ex_sl hL (e.trans g.1)) ?_ ?_
  · rintro l k x h2 nl hx ⟨e2, f2⟩
    obtain ⟨d, hd', dx⟩ := ds_at hD hs hx
    have hk := at_lt hx
    walk_at "r"
    refine ⟨rfl, ?_⟩
    walk_at "r"
    refine ⟨x, d, rfl, ds_ex dx (e.trans e2), fun H1 e1 => ?_⟩
    refine ⟨_, e1 _ _ f2, sz_lt (by rw [bools_len]; omega), (e2.trans e1).mut nl, ?_⟩
    rw [upd_same, bools_snoc (fun d => numD d 5) hd']
  rintro l2 h2 nl2 ⟨e2, f2⟩
  walk_at "r"
  rw [hl, List.take_length] at f2
  refine ⟨l2, _, rfl, SqL.of f2, ?_⟩
  rw [bools_all]
  have g2 := q h2 (e.trans e2)
  unfold kindD at g2
  rw [nf c] at g2
  exact g2
theorem ok_calls_fit (T : Tx K mg) : FnOk P w K mg base CX0 1 T.a_calls_fit T.e_calls_fit p_calls_fit (pFit K) := by
  refine T.d_calls_fit.F.ok sc_calls_fit (fun vs H Q E h => ?_) (fun cdv A outer s H vs Q E hr h => ?_)
  · obtain ⟨ps, ss, m, kvs, rfl, _⟩ := h
    rfl
  obtain ⟨ps, ss, m, kvs, rfl, ⟨⟨xs, hL, hD⟩, hs, hz⟩, so, fm, ik, q⟩ := h
  have hl := dpa_len hD
  have hu := hu_of hr
  refine ⟨_, (pss_cons (ps_for PassesOwn.never rfl (plK K (pv 0)) (pg_name (i := 2) sc_calls_fit.nd rfl (.inl rfl)) (pss_one (ps_if (PW.pt (pw_and (pt_cmpR op_eq (pe_ix (ixT K) (pv 2) pe_int (fun _ _ => rfl)) pe_str (nomark _)) (pw_and1 (pt_cmpR op_ne (pe_dget1 hu (pv 1) (pe_ix (ixT K) (pv 2) pe_int (fun _ _ => rfl)) ⟨rfl, rfl, rfl, rfl⟩) (pe_callB (lenK K) (by rfl) T.b_len PySem.boot_len (pa_cons (pe_ix (ixT K) (pv 2) pe_int (fun _ _ => rfl)) pa_nil)) (nomark _))))) (pss_one (ps_ret pe_bl)) pss_nil)))
    (pss_one (ps_ret pe_bl))), ?_⟩
  walk_at "r"
  refine r_L hL ?_
  refine lp_list (xs := xs) (fun k σ h => (∃ z, σ = [some (.ref ps), some (.ref m), z]) ∧ h = H ∧ (ss.take k).all (fit1 kvs) = true)
    ⟨⟨_, rfl⟩, rfl, rfl⟩ (fun k σ h _ g => by rw [g.2.1]; exact hL) ?_ ?_
  · rintro k x σ h hx ⟨⟨z, rfl⟩, rfl, fD⟩
    obtain ⟨d, hd', dx⟩ := ds_at hD hs hx
    have hk := at_lt hx
    obtain ⟨es, o⟩ := st_ok (all_at so hd')
    obtain ⟨p2, xs2, ds2, rfl, e2, hT, hD2, hs2, hl2⟩ := ds_tup dx (by rw [o.e]; rfl)
    cases o.e.symm.trans e2
    have ow := o.w
    have on := o.ne
    have ol := o.cl
    rw [← e2] at ow
    have nxt : fit1 kvs d = true → (ss.take (k + 1)).all (fit1 kvs) = true := fun z => by
      rw [take_snoc hd', List.all_append, fD, List.all_cons, z]
      rfl
    have bad : fit1 kvs d = false → Q (.bl false) h := fun z => by
      have g := q h (Ex.refl _)
      have e : fitD kvs ss = false := by
        cases y : fitD kvs ss with
        | false => rfl
        | true => rw [all_at y hd'] at z; cases z
      rw [e] at g
      exact g
    walk_at "r"
    refine a_nthS (i := 0) hT hD2 hs2 on fun v0 d0 => ?_
    rw [← e2, ow] at d0
    cases dp_str d0.1
    walk_at "r"
    refine ite2 (fun c => ?_) (fun c => ?_)
    · have c' := of_decide_eq_true c
      have h3 := ol c'
      have nm := name_str h3.2.1
      walk_at "r"
      refine a_getD fm ?_
      walk_at "r"
      refine a_nthS (i := 1) hT hD2 hs2 (by omega) fun v1 d1 => ?_
      rw [← e2, nm.1] at d1
      cases dp_str d1.1
      refine ⟨_, DGet.k (k := Sum.inr (strD (nthD d 1))) fm, ?_⟩
      walk_at "r"
      refine a_nthS (i := 2) hT hD2 hs2 (by omega) fun v2 d2 => ?_
      rw [← e2] at d2
      have tg : tagD (nthD d 2) = "list" := by
        have := h3.2.2
        unfold srcsD at this
        rw [Bool.and_eq_true] at this
        exact of_decide_eq_true this.1
      obtain ⟨p3, xs3, ds3, rfl, e3, hL3, _, _, _, hl3⟩ := ds_lst d2 tg
      walk_at "r"
      refine a_lenL hL3 ?_
      refine w_ne (int_scal ik _ _) ?_
      walk_at "r"
      have ef : fit1 kvs d = decide ((valV kvs (Sum.inr (strD (nthD d 1)))).getD .non = .int (xs3.length : Nat)) := by
        unfold fit1
        rw [c, e3, hl3]
        rfl
      refine ite2 (fun c2 => ?_) (fun c2 => ?_)
      · walk_at "r"
        refine bad ?_
        rw [ef]
        cases y : decide ((valV kvs (Sum.inr (strD (nthD d 1)))).getD .non = .int (xs3.length : Nat)) with
        | false => rfl
        | true => rw [y] at c2; cases c2
      · walk_at "r"
        refine ⟨⟨_, rfl⟩, rfl, nxt ?_⟩
        rw [ef]
        cases y : decide ((valV kvs (Sum.inr (strD (nthD d 1)))).getD .non = .int (xs3.length : Nat)) with
        | true => rfl
        | false => rw [y] at c2; exact absurd rfl c2
    · walk_at "r"
      refine ⟨⟨_, rfl⟩, rfl, nxt ?_⟩
      unfold fit1
      rw [nf c]
      rfl
  · rintro σ h ⟨⟨z, rfl⟩, rfl, fD⟩
    rw [hl, List.take_length] at fD
    walk_at "r"
    have g := q h (Ex.refl _)
    unfold fitD at g
    rw [fD] at g
    exact g
theorem ok_all_calls_fit (T : Tx K mg) : FnOk P w K mg base CX0 2 T.a_all_calls_fit T.e_all_calls_fit p_all_calls_fit (pFits K T.C_Function) := by
  refine T.d_all_calls_fit.F.ok sc_all_calls_fit (fun vs H Q E h => ?_) (fun cdv A outer s H vs Q E hr h => ?_)
  · obtain ⟨pf, ps, fs, ss, rfl, _⟩ := h
    rfl
  obtain ⟨pf, ps, fs, ss, rfl, ⟨⟨xs, hL, hF⟩, hsx, fo, so, f4, s40⟩, q⟩ := h
  have hl := hF.len
  have hu := hu_of hr
  refine ⟨_, (pss_cons (ps_set (i := 2) sc_all_calls_fit.nd rfl (.inl rfl) pe_dnewK)
    (pss_cons (ps_for PassesOwn.never rfl (plK K (pv 0)) (pg_name (i := 3) sc_all_calls_fit.nd rfl (.inl rfl)) (pss_cons (ps_if (pt_not (pt_val (pe_call (ok_calls_fit T) (hr.mono (by omega)) (by rfl) T.d_calls_fit.m T.d_calls_fit.F.kp T.d_calls_fit.b .nil pass0 (pa_cons (by exact (fldK K (pv 3) rfl)) (pa_cons (pv 2) pa_nil))))) (pss_one (ps_ret pe_bl)) pss_nil)
    (pss_one (ps_dput hu (pv 2) (by exact (fldK K (pv 3) rfl)) (pe_callB (lenK K) (by rfl) T.b_len PySem.boot_len (pa_cons (by exact (fldK K (pv 3) rfl)) pa_nil)) rfl))))
    (pss_one (ps_ret (pe_call (ok_calls_fit T) (hr.mono (by omega)) (by rfl) T.d_calls_fit.m T.d_calls_fit.F.kp T.d_calls_fit.b .nil pass0 (pa_cons (pv 1) (pa_cons (pv 2) pa_nil))))))), ?_⟩
  walk_at "r"
  refine new_dK fun m H1 n1 e1 f1 => ?_
  walk_at "r"
  refine r_L (ex_sl hL e1) ?_
  refine lp_list (xs := xs) (fun k σ h => (∃ z, σ = [some (.ref pf), some (.ref ps), some (.ref m), z]) ∧ Ex H h ∧ ∃ kvs, h m = some (.dK kvs) ∧ IntK kvs ∧ kvs.length ≤ k ∧ fitF [] fs ss = fitF kvs (fs.drop k) ss)
    ⟨⟨_, rfl⟩, e1, [], f1, (fun k v e => by cases e), Nat.le_refl _, rfl⟩ (fun k σ h _ g => ex_sl hL g.2.1) ?_ ?_
  · rintro k x σ h hx ⟨⟨z, rfl⟩, e, kvs, fm, ik, kl, ef⟩
    obtain ⟨a, fd, rfl, hd', hfx⟩ := hF.get hx
    obtain ⟨dx, nv, q1, q2, fa, hn, hp, hb⟩ := hfx.ex
    have hk := at_lt hx
    have fok := fn_le (all_at fo hd')
    have nm := name_str fok.2.2.1
    rw [nm.1] at hn
    cases dp_str hn.1
    obtain ⟨zs, gq, gD⟩ := hp.ex
    have zl := dpa_len gD
    have ed : fs.drop k = fd :: fs.drop (k + 1) := by
      rw [← List.getElem_cons_drop (h := by rw [← hl]; exact hk)]
      congr 1
      rw [List.getElem?_eq_getElem (by rw [← hl]; exact hk)] at hd'
      exact Option.some.inj hd'
    rw [ed] at ef
    have ef2 : fitF [] fs ss = (fitD kvs fd.b && fitF (putN kvs fd) (fs.drop (k + 1)) ss) := ef
    walk_at "r"
    refine a_get T.c_Function T.n_Function_body (e _ _ fa) (fn_body _ _ _) ?_
    walk_at "r"
    refine ⟨q2, fd.b, m, kvs, rfl, hb.dl.up e, fok.2.2.2.2, fm, ik, fun H2 e2 => ?_⟩
    walk_at "r"
    refine ite2 (fun c => ?_) (fun c => ?_)
    · have c' : fitD kvs fd.b = false := by
        cases y : fitD kvs fd.b with
        | false => rfl
        | true => rw [y] at c; cases c
      rw [c'] at ef2
      have g := q H2 (e.trans e2)
      rw [ef2] at g
      walk_at "r"
      exact g
    have c1 : fitD kvs fd.b = true := by
      cases y : fitD kvs fd.b with
      | true => rfl
      | false => rw [y] at c; exact absurd rfl c
    rw [c1, Bool.true_and] at ef2
    have e12 := e.trans e2
    walk_at "r"
    refine a_get T.c_Function T.n_Function_params (e12 _ _ fa) (fn_params _ _ _) ?_
    walk_at "r"
    refine a_lenL (SqL.of (e12 _ _ gq)) ?_
    walk_at "r"
    refine a_get T.c_Function T.n_Function_name (e12 _ _ fa) (fn_name _ _ _) ?_
    refine a_putD (e2 _ _ fm) (by omega) ?_
    walk_at "r"
    have pl := putN_le kvs fd
    refine ⟨⟨_, rfl⟩, e12.mut n1, putN kvs fd, ?_, ik.put fd, ?_, ef2⟩
    · rw [upd_same, zl]
      rfl
    · omega
  · rintro σ h ⟨⟨z, rfl⟩, e, kvs, fm, ik, kl, ef⟩
    rw [hl, List.drop_length] at ef
    walk_at "r"
    refine ⟨ps, ss, m, kvs, rfl, hsx.up e, so, fm, ik, fun H2 e2 => ?_⟩
    have g := q H2 (e.trans e2)
    rw [ef] at g
    exact g
end
section
variable {P : Program} {w : World} {K : PySem.W.Frag} {mg : Str → Option Value} {base : Heap}
theorem ok_are_different (T : Tx K mg) : FnOk P w K mg base CX0 1 T.a_are_different T.e_are_different p_are_different (pDiff K) := by
  refine T.d_are_different.F.ok sc_are_different (fun vs H Q E h => ?_) (fun cdv A outer s H vs Q E hr h => ?_)
  · obtain ⟨p, ss, rfl, _⟩ := h
    rfl
  obtain ⟨p, ss, rfl, hL, hz, hs, q⟩ := h
  refine ⟨_, (pss_one (ps_ret (pe_cmpR op_eq (setNK K rfl (by rfl) T.b_len (by rfl) T.b_set (pv 0)) (pe_callB (lenK K) (by rfl) T.b_len PySem.boot_len (pa_cons (pv 0) pa_nil)) (nomark _)))), ?_⟩
  walk_at "r"
  refine ⟨.ref p, rfl, p, ss, rfl, hL, by omega, ?_⟩
  walk_at "r"
  refine a_lenL hL ?_
  walk_at "r"
  have g := q H (Ex.refl _)
  rw [← fm_nodup] at g
  rw [List.length_map]
  exact g
theorem ok_is_program (T : Tx K mg) : FnOk P w K mg base CX0 8 T.a_is_program T.e_is_program p_is_program (pIp K T.C_Function) := by
  refine T.d_is_program.F.ok sc_is_program (fun vs H Q E h => ?_) (fun cdv A outer s H vs Q E hr h => ?_)
  · obtain ⟨pf, ps, xs, fs, ss, rfl, _⟩ := h
    rfl
  obtain ⟨pf, ps, xs, fs, ss, rfl, hL, hF, hz, hsx, q⟩ := h
  have hl := hF.len
  have e0 : progD fs ss = (decide (fs.length ≤ 4) && fs.all fnD && stsD 40 ss && (nodupD (namesD fs ss) && kindD (kindsD fs ss) && fitF [] fs ss)) := rfl
  refine ⟨_, (pss_cons (ps_if (PW.pt (pw_or (pt_cmpR k_notTy (pe_callTy (typK K) (by rfl) T.b_type (by decide +kernel) (pa_cons (pv 0) pa_nil)) (pe_bltn (v := .ty "list") (by rfl) T.b_list (by decide +kernel) rfl) (nomark _)) (pw_or1 (pt_cmpR op_gt (pe_callB (lenK K) (by rfl) T.b_len PySem.boot_len (pa_cons (pv 0) pa_nil)) (pe_glob (v := .int 4) (by rfl) T.m_MOST_FUNCTIONS ⟨_, rfl⟩) (nomark _))))) (pss_one (ps_ret pe_bl)) pss_nil)
    (pss_cons (ps_if (pt_not (pt_val (pe_callB (allK K) (by rfl) T.b_all (by decide +kernel) (pa_cons (pe_lc (own := [("function", 2)]) (g := gName 2) rfl sc_is_program.nd  (plK K (pv 0)) (blkOk_by (own := [("function", 2)]) (N := n_is_program) (sc := defScope s_is_program) (by decide +kernel)) (fun _ _ _ _ _ => (pg_name (i := 2) sc_is_program.nd rfl (Or.inl rfl))) (fun _ _ _ _ _ => pts_nil) (fun _ _ _ _ _ => (pe_call (ok_is_function T) (hr.mono (by omega)) (by rfl) T.d_is_function.m T.d_is_function.F.kp T.d_is_function.b .nil pass0 (pa_cons (pv 2) pa_nil)))) pa_nil)))) (pss_one (ps_ret pe_bl)) pss_nil)
    (pss_cons (ps_if (pt_not (pt_val (pe_call (ok_are_statements T) (hr.mono (by omega)) (by rfl) T.d_are_statements.m T.d_are_statements.F.kp T.d_are_statements.b .nil pass0 (pa_cons (pv 1) (pa_cons (pe_glob (v := .int 40) (by rfl) T.m_MOST_STATEMENTS ⟨_, rfl⟩) pa_nil))))) (pss_one (ps_ret pe_bl)) pss_nil)
    (pss_one (ps_ret (pe_and (pe_call (ok_are_different T) (hr.mono (by omega)) (by rfl) T.d_are_different.m T.d_are_different.F.kp T.d_are_different.b .nil pass0 (pa_cons (pe_call (ok_all_names T) (hr.mono (by omega)) (by rfl) T.d_all_names.m T.d_all_names.F.kp T.d_all_names.b .nil pass0 (pa_cons (pv 0) (pa_cons (pv 1) pa_nil))) pa_nil)) (pe_and (pe_call (ok_are_of_one_kind T) (hr.mono (by omega)) (by rfl) T.d_are_of_one_kind.m T.d_are_of_one_kind.F.kp T.d_are_of_one_kind.b .nil pass0 (pa_cons (pe_call (ok_all_kinds T) (hr.mono (by omega)) (by rfl) T.d_all_kinds.m T.d_all_kinds.F.kp T.d_all_kinds.b .nil pass0 (pa_cons (pv 0) (pa_cons (pv 1) pa_nil))) pa_nil)) (pe_one (pe_call (ok_all_calls_fit T) (hr.mono (by omega)) (by rfl) T.d_all_calls_fit.m T.d_all_calls_fit.F.kp T.d_all_calls_fit.b .nil pass0 (pa_cons (pv 0) (pa_cons (pv 1) pa_nil))))))))))), ?_⟩
  walk_at "r"
  refine ⟨.ref pf, _, rfl, .lst hL, ?_⟩
  walk_at "r"
  refine ite2 (fun c => absurd c (by decide)) (fun _ => ?_)
  walk_at "r"
  refine a_lenL hL ?_
  walk_at "r"
  refine ite2 (fun c => ?_) (fun c => ?_)
  · have c' := of_decide_eq_true c
    have g := q H (Ex.refl _)
    rw [e0, decide_eq_false (show ¬ fs.length ≤ 4 by omega)] at g
    walk_at "r"
    exact g
  have c1 : fs.length ≤ 4 := by
    have := of_decide_eq_false (nf c)
    omega
  rw [decide_eq_true c1, Bool.true_and] at e0
  walk_at "r"
  refine c_L hL ?_
  refine cp_list (xs := xs) (fun l k h => Ex H h ∧ h l = some (.lst (((fs.take k).map fnD).map V.bl))) (fun l n => ⟨Ex.new n, upd_same⟩) (fun l k h _ _ g => ex_sl hL g.1) ?_ ?_
  · rintro l k x h nl hx ⟨e, f⟩
    obtain ⟨a, fd, rfl, hd', hfx⟩ := hF.get hx
    have hk := at_lt hx
    walk_at "r"
    refine ⟨rfl, ?_⟩
    walk_at "r"
    refine ⟨a, fd, rfl, hfx.up e, fun H1 e1 => ?_⟩
    refine ⟨_, e1 _ _ f, sz_lt (by rw [List.length_map, List.length_map, List.length_take]; omega), (e.trans e1).mut nl, ?_⟩
    rw [upd_same, take_snoc hd', List.map_append, List.map_append]
    rfl
  rintro l h nl ⟨e, f⟩
  walk_at "r"
  rw [hl, List.take_length] at f
  refine ⟨l, _, rfl, SqL.of f, ?_⟩
  have ea : (fs.map fnD).all id = fs.all fnD := by
    rw [List.all_map]
    rfl
  rw [ea]
  walk_at "r"
  refine ite2 (fun c => ?_) (fun c => ?_)
  · have c' : fs.all fnD = false := by
      cases y : fs.all fnD with
      | false => rfl
      | true => rw [y] at c; cases c
    have g := q h e
    rw [e0, c'] at g
    walk_at "r"
    exact g
  have fo : fs.all fnD = true := by
    cases y : fs.all fnD with
    | true => rfl
    | false => rw [y] at c; exact absurd rfl c
  rw [fo, Bool.true_and] at e0
  walk_at "r"
  refine ⟨ps, ss, 40, rfl, hsx.up e, fun H1 e1 => ?_⟩
  have E1 := e.trans e1
  walk_at "r"
  refine ite2 (fun c => ?_) (fun c => ?_)
  · have c' : stsD 40 ss = false := by
      cases y : stsD 40 ss with
      | false => rfl
      | true => rw [y] at c; cases c
    have g := q H1 E1
    rw [e0, c'] at g
    walk_at "r"
    exact g
  have so' : stsD 40 ss = true := by
    cases y : stsD 40 ss with
    | true => rfl
    | false => rw [y] at c; exact absurd rfl c
  have so := sts_le so'
  rw [so', Bool.true_and] at e0
  have hpg : Pg K T.C_Function H pf ps fs ss := ⟨⟨xs, hL, hF⟩, hsx, fo, so.2, c1, so.1⟩
  walk_at "r"
  refine ⟨[], pf, ps, fs, ss, rfl, Al.nil, by rw [dl_nil]; exact hpg.up E1, fun t H2 n2 e2 f2 => ?_⟩
  have E2 := E1.trans e2
  walk_at "r"
  refine ⟨t, _, rfl, SqL.of f2, names_le fo c1 so.1, names_s fo so.2, fun H3 e3 => ?_⟩
  have E3 := E2.trans e3
  have g3 := q H3 E3
  rw [e0] at g3
  walk_at "r"
  refine ite2 (fun c => ?_) (fun c => ?_)
  rotate_left
  · rw [nf c] at g3
    exact g3
  rw [c, Bool.true_and] at e0
  walk_at "r"
  refine ⟨[], pf, ps, fs, ss, rfl, Al.nil, by rw [dl_nil]; exact hpg.up E3, fun t4 ys4 H4 n4 e4 f4 D4 => ?_⟩
  have E4 := E3.trans e4
  rw [dl_nil] at D4
  walk_at "r"
  have dle := decls_le fo c1 so.1
  refine ⟨t4, _, rfl, ⟨⟨ys4, SqL.of f4, D4⟩, kinds_sm (sm_app (fn_sm hF fo) (sm_lets hsx.sm so.2)) (decls_ok fo so.2), by unfold kindsD; rw [List.length_map]; omega⟩, fun H5 e5 => ?_⟩
  have E5 := E4.trans e5
  have g5 := q H5 E5
  rw [e0] at g5
  walk_at "r"
  refine ite2 (fun c => ?_) (fun c => ?_)
  rotate_left
  · rw [nf c] at g5
    exact g5
  rw [c, Bool.true_and] at e0
  walk_at "r"
  refine ⟨pf, ps, fs, ss, rfl, hpg.up E5, fun H6 e6 => ?_⟩
  have g6 := q H6 (E5.trans e6)
  rw [e0] at g6
  exact g6
theorem ok_RightsError_init (T : Tx K mg) : FnOk P w K mg base CX0 1 T.a_RightsError_init T.e_RightsError_init p_RightsError_init (pRe T.C_RightsError) := by
  refine T.d_RightsError_init.F.ok sc_RightsError_init (fun vs H Q E h => ?_) (fun cdv A outer s H vs Q E hr h => ?_)
  · obtain ⟨a, r, rfl, _⟩ := h
    rfl
  obtain ⟨a, r, rfl, fa, q⟩ := h
  refine ⟨_, (pss_cons (ps_expr (pe_veinit (by rfl) T.b_ValueError T.vV (pa_cons (pv 0) (pa_cons (pv 1) pa_nil))))
    (pss_one (ps_ost (pv 0) (pv 1)))), ?_⟩
  walk_at "r"
  refine ⟨a, T.C_RightsError, [.str r], rfl, (show 1 ≤ 1000 by decide), T.o_RightsError, fa, ?_⟩
  walk_at "r"
  refine ⟨a, T.C_RightsError, rfl, T.o_RightsError, T.n_RightsError_reason, .inl ⟨fa, fun dx n ne => ?_⟩⟩
  walk_at "r"
  exact q dx n ne
theorem ok_Program_init (T : Tx K mg) : FnOk P w K mg base (L2.CX P w) 9 T.a_Program_init T.e_Program_init p_Program_init (pPi K T.C_Program T.C_Function T.C_RightsError) := by
  refine T.d_Program_init.F.okX sc_Program_init (fun vs H Q E h => ?_) (fun cdv A outer s H vs Q E hr h => ?_)
  · obtain ⟨S, a, dx, pf, ps, xs, fs, ss, rfl, _⟩ := h
    rfl
  obtain ⟨S, a, dx, pf, ps, xs, fs, ss, rfl, al, ha, fa, hL, hF, hz, hsx, q1, q2⟩ := h
  refine ⟨_, (pss_cons (ps_fld (pv 0) (pe_call (ok_copied_functions T) (hr.mono (by omega)) (by rfl) T.d_copied_functions.m T.d_copied_functions.F.kp T.d_copied_functions.b .nil pass0 (pa_cons (pv 1) pa_nil)) rfl)
    (pss_cons (ps_fld (pv 0) (pe_call (ok_copied_statements T) (hr.mono (by omega)) (by rfl) T.d_copied_statements.m T.d_copied_statements.F.kp T.d_copied_statements.b .nil pass0 (pa_cons (pv 2) pa_nil)) rfl)
    (pss_one (ps_if (pt_not (pt_val (pe_call (ok_is_program T) (hr.mono (by omega)) (by rfl) T.d_is_program.m T.d_is_program.F.kp T.d_is_program.b .nil pass0 (pa_cons (by exact (fldK K (pv 0) rfl)) (pa_cons (by exact (fldK K (pv 0) rfl)) pa_nil))))) (pss_one (ps_raise rfl (takes_of rfl rfl rfl rfl) (pmk_oex T.o_RightsError T.i_RightsError T.t_RightsError (ok_RightsError_init T) (hr.mono (by omega)) T.d_RightsError_init.b .nil pass0 (by rfl) T.g_RightsError (pa_cons pe_str pa_nil)))) pss_nil)))), ?_⟩
  walk_at "r"
  refine ⟨S, pf, xs, fs, rfl, al, hL, hF, hz, fun p1 ys1 H1 n1 e1 f1 D1 nw => ?_⟩
  have na1 : p1 ≠ a := fun z => by rw [z, fa] at n1; cases n1
  walk_at "r"
  refine a_put T.c_Program T.n_Program_functions (e1 _ _ fa) (by decide) ?_
  have g2 : dl S (upd H1 a (.ins T.C_Program dx (putF "functions" (.ref p1) []))) = dl S H1 := dl_upd ha
  have al2 : Al S (upd H1 a (.ins T.C_Program dx (putF "functions" (.ref p1) []))) := (al.ex e1).upd
  have k2 : Ks [a] H (upd H1 a (.ins T.C_Program dx (putF "functions" (.ref p1) []))) := (Ks.of e1).upd (by simp)
  have k02 : Ks [a] H1 (upd H1 a (.ins T.C_Program dx (putF "functions" (.ref p1) []))) := (Ks.refl _ _).upd (by simp)
  have f2 : (upd H1 a (.ins T.C_Program dx (putF "functions" (.ref p1) []))) a = some (.ins T.C_Program dx (putF "functions" (.ref p1) [])) := upd_same
  have f2p : (upd H1 a (.ins T.C_Program dx (putF "functions" (.ref p1) []))) p1 = some (.lst ys1) := by rw [upd_ne na1]; exact f1
  generalize upd H1 a (.ins T.C_Program dx (putF "functions" (.ref p1) [])) = H2 at g2 al2 k2 k02 f2 f2p ⊢
  have e02 : Ex (dl S H) (dl S H2) := by rw [g2]; exact dl_ex e1
  rw [← g2] at D1
  walk_at "r"
  refine ⟨S, ps, ss, rfl, al2, hsx.up e02, fun p2 ys2 H3 n3 e3 f3 D3 => ?_⟩
  have na2 : p2 ≠ a := fun z => by rw [z, f2] at n3; cases n3
  walk_at "r"
  refine a_put T.c_Program T.n_Program_statements (e3 _ _ f2) (put1_lt _ _) ?_
  have g4 : dl S (upd H3 a (.ins T.C_Program dx (pgF p1 p2))) = dl S H3 := dl_upd ha
  have k4 : Ks [a] H (upd H3 a (.ins T.C_Program dx (pgF p1 p2))) := (k2.trans (Ks.of e3)).upd (by simp)
  have k24 : Ks [a] H2 (upd H3 a (.ins T.C_Program dx (pgF p1 p2))) := (Ks.of e3).upd (by simp)
  have f4 : (upd H3 a (.ins T.C_Program dx (pgF p1 p2))) a = some (.ins T.C_Program dx (pgF p1 p2)) := upd_same
  have f4p : (upd H3 a (.ins T.C_Program dx (pgF p1 p2))) p1 = some (.lst ys1) := by rw [upd_ne na1]; exact e3 _ _ f2p
  have f4q : (upd H3 a (.ins T.C_Program dx (pgF p1 p2))) p2 = some (.lst ys2) := by rw [upd_ne na2]; exact f3
  change (fun Hc => _) (upd H3 a (.ins T.C_Program dx (pgF p1 p2)))
  generalize upd H3 a (.ins T.C_Program dx (pgF p1 p2)) = H4 at g4 k4 k24 f4 f4p f4q ⊢
  rw [← g4] at D3
  have D1' : FnAll K T.C_Function (dl S H4) ys1 fs := D1.up (by rw [g4]; exact dl_ex e3)
  walk_at "r"
  refine a_get T.c_Program T.n_Program_functions f4 (pg_fns _ _) ?_
  walk_at "r"
  refine a_get T.c_Program T.n_Program_statements f4 (pg_sts _ _) ?_
  walk_at "r"
  refine ⟨p1, p2, ys1, fs, ss, rfl, SqL.of f4p, D1'.up (dl_le S H4), hz, ⟨⟨ys2, SqL.of f4q, dpa_ex (dl_le S H4) D3⟩, hsx.sm, hsx.le⟩, fun H5 e5 => ?_⟩
  walk_at "r"
  refine ite2 (fun c => ?_) (fun c => ?_)
  · have c' : progD fs ss = false := by
      cases y : progD fs ss with
      | false => rfl
      | true => rw [y] at c; cases c
    walk_at "r"
    refine mko_re fun d H6 n6 e6 f6 => ?_
    refine q2 c' d H6 ((k4.trans (Ks.of e5)).trans (Ks.of e6)) ?_ f6
    refine ks_none (k4.trans (Ks.of e5)) n6 ?_
    have := e5 _ _ f4
    rw [List.mem_singleton]
    rintro rfl
    rw [this] at n6
    cases n6
  · have c' : progD fs ss = true := by
      cases y : progD fs ss with
      | true => rfl
      | false => rw [y] at c; exact absurd rfl c
    walk_at "r"
    have KH : Ks [a] H1 H5 := (k02.trans k24).trans (Ks.of e5)
    exact q1 c' p1 p2 ys1 ys2 H5 (k4.trans (Ks.of e5)) n1 (ks_none k2 n3 (by simpa using na2)) (e5 _ _ f4) (e5 _ _ f4p) (D1'.up (dl_ex e5)) (fun v hv => (nw v hv).ks fa KH) (e5 _ _ f4q) (dpa_ex (dl_ex e5) D3)
end
section
variable {P : Program} {w : World} {K : PySem.W.Frag} {mg : Str → Option Value} {base : Heap}
def pCell (K : PySem.W.Frag) : Sp := fun vs H Q _ => ∃ (a : Addr) (ns : List Int) (k : Int), vs = [.ref a, .int k] ∧ SqL K H a (ns.map V.int) ∧ 0 ≤ k ∧ ∀ v : Int, Q (.int v) H
theorem ok__law_cell (T : Tx K mg) : FnOk P w K mg base CX0 1 T.a__law_cell T.e__law_cell p__law_cell (pCell K) := by
  refine T.d__law_cell.F.ok sc__law_cell (fun vs H Q E h => ?_) (fun cdv A outer s H vs Q E hr h => ?_)
  · obtain ⟨a, ns, k, rfl, _⟩ := h
    rfl
  obtain ⟨a, ns, k, rfl, hS, h0, q⟩ := h
  refine ⟨_, (pss_cons (ps_if (pt_cmpR op_lt (pv 1) (pe_callB (lenK K) (by rfl) T.b_len PySem.boot_len (pa_cons (pv 0) pa_nil)) (nomark _)) (pss_one (ps_ret (pe_ix (ixL K) (pv 0) (pv 1) (fun _ _ => rfl)))) pss_nil)
    (pss_one (ps_ret pe_int))), ?_⟩
  walk_at "r"
  refine a_lenL hS ?_
  walk_at "r"
  refine ite2 (fun c => ?_) (fun c => ?_)
  · have c' : k < ((ns.map V.int).length : Int) := of_decide_eq_true c
    walk_at "r"
    have hk : k.toNat < ns.length := by rw [List.length_map] at c'; omega
    have ek : k = ((k.toNat : Nat) : Int) := by omega
    refine a_ixL (v := .int ns[k.toNat]) hS ?_ (q _)
    have g : atI (ns.map V.int) ((k.toNat : Nat) : Int) = some (.int ns[k.toNat]) := atI_nat (by rw [List.getElem?_map]; simp [hk])
    rw [← ek] at g
    exact g
  · walk_at "r"
    exact q _
def pRow (K : PySem.W.Frag) : Sp := fun vs H Q _ => ∃ (a : Addr) (ns : List Int) (l : Int), vs = [.ref a, .int 0, .int l] ∧ SqL K H a (ns.map V.int) ∧ 0 ≤ l ∧ l ≤ 63 ∧
  ∀ p H' (rs : List Int), H p = none → Ex H H' → H' p = some (.lst (rs.map V.int)) → rs.length ≤ 100000 → Q (.ref p) H'
theorem map_snoc (rs : List Int) (v : Int) : rs.map V.int ++ [.int v] = (rs ++ [v]).map V.int := by rw [List.map_append]; rfl
theorem ok__law_row (T : Tx K mg) : FnOk P w K mg base CX0 2 T.a__law_row T.e__law_row p__law_row (pRow K) := by
  refine T.d__law_row.F.ok sc__law_row (fun vs H Q E h => ?_) (fun cdv A outer s H vs Q E hr h => ?_)
  · obtain ⟨a, ns, l, rfl, _⟩ := h
    rfl
  obtain ⟨a, ns, l, rfl, hS, h0, h1, q⟩ := h
  refine ⟨_, (pss_cons (ps_set (i := 3) sc__law_row.nd rfl (.inl rfl) (pe_lst pa_nil))
    (pss_cons (ps_for PassesOwn.never rfl (pi_range2 (by rfl) T.b_range (pa_cons (pv 1) (pa_cons (pv 2) pa_nil))) (pg_name (i := 4) sc__law_row.nd rfl (.inl rfl)) (pss_cons (ps_set (i := 5) sc__law_row.nd rfl (.inl rfl) (pe_call (ok__law_cell T) (hr.mono (by omega)) (by rfl) T.d__law_cell.m T.d__law_cell.F.kp T.d__law_cell.b .nil pass0 (pa_cons (pv 0) (pa_cons (pv 4) pa_nil))))
    (pss_cons (ps_set (i := 5) sc__law_row.nd rfl (.inl rfl) (pe_op op_add (pe_callB k_abs (by rfl) T.b_abs (by decide +kernel) (pa_cons (pe_op op_mul pe_int (pv 5)) pa_nil)) (pe_callTy k_int (by rfl) T.b_int (by decide +kernel) (pa_cons (pe_cmpR op_lt (pv 5) pe_int (nomark _)) pa_nil))))
    (pss_one (ps_if (pt_cmpR op_gt (pv 5) (pe_op op_pow pe_int pe_int) (nomark _)) (pss_one (ps_for PassesOwn.never rfl (pi_range1 (by rfl) T.b_range (pa_cons pe_int pa_nil)) (pg_name (i := 6) sc__law_row.nd rfl (.inl rfl)) (pss_one (ps_if (pt_cmpR op_gt (pv 5) pe_int (nomark _)) (pss_cons (ps_expr (pe_bm PySem.F.plainAttrs_list PySem.F.slot_list_append PySem.F.type_list_append mt_append (pv 3) (pa_cons (pe_op op_mod (pe_callTy k_int (by rfl) T.b_int (by decide +kernel) (pa_cons (pv 5) pa_nil)) pe_int) pa_nil)))
    (pss_one (ps_set (i := 5) sc__law_row.nd rfl (.inl rfl) (pe_op op_fdiv (pv 5) pe_int)))) pss_nil)))) (pss_one (ps_for PassesOwn.never rfl (pi_range1 (by rfl) T.b_range (pa_cons pe_int pa_nil)) (pg_name (i := 6) sc__law_row.nd rfl (.inl rfl)) (pss_cons (ps_set (i := 5) sc__law_row.nd rfl (.inl rfl) (pe_op op_mod (pe_callTy k_int (by rfl) T.b_int (by decide +kernel) (pa_cons (pe_op op_add (pe_op op_add (pe_op op_mul (pv 5) pe_int) (pe_op op_mul pe_int (pe_op op_add (pv 4) (pv 6)))) pe_int) pa_nil)) pe_int))
    (pss_one (ps_expr (pe_bm PySem.F.plainAttrs_list PySem.F.slot_list_append PySem.F.type_list_append mt_append (pv 3) (pa_cons (pe_op op_mod (pe_callTy k_int (by rfl) T.b_int (by decide +kernel) (pa_cons (pe_op op_fdiv (pv 5) pe_int) pa_nil)) pe_int) pa_nil))))))))))))
    (pss_one (ps_ret (pv 3))))), ?_⟩
  walk_at "r"
  refine new_lst (xs := []) (by simp) fun p H1 n1 e1 f1 => ?_
  walk_at "r"
  refine r_R2 (by omega) ?_
  refine lp_range (fun k σ h => ∃ x y z, ∃ rs : List Int, σ = [some (.ref a), some (.int 0), some (.int l), some (.ref p), x, y, z] ∧ Ex H h ∧ h p = some (.lst (rs.map V.int)) ∧ rs.length ≤ 100 * k)
    ⟨_, _, _, [], rfl, e1, f1, by simp⟩ ?_ ?_
  · rintro k σ h hk ⟨x, y, z, rs, rfl, e2, f2, z2⟩
    walk_at "r"
    refine ⟨a, ns, _, rfl, ex_sl hS e2, by omega, fun v => ?_⟩
    walk_at "r"
    refine w_I (.inl ⟨by decide, by decide⟩) ?_
    walk_at "r"
    generalize (if 2 * v < 0 then -(2 * v) else 2 * v) + (if decide (v < 0) = true then 1 else 0) = c0
    refine w_I ⟨by decide, by decide, by decide⟩ ?_
    walk_at "r"
    refine ite2 (fun _ => ?_) (fun _ => ?_)
    · walk_at "r"
      refine r_R1 (by omega) ?_
      refine lp_range (fun m σ h' => ∃ z, ∃ rs' : List Int, ∃ c : Int, σ = [some (.ref a), some (.int 0), some (.int l), some (.ref p), some (.int (0 + (k : Int))), some (.int c), z] ∧ Ex H h' ∧ h' p = some (.lst (rs'.map V.int)) ∧ rs'.length ≤ 100 * k + m)
        ⟨_, rs, c0, rfl, e2, f2, by omega⟩ ?_ ?_
      · rintro m σ h' hm ⟨z', rs', c, rfl, e3, f3, z3⟩
        walk_at "r"
        refine ite2 (fun _ => ?_) (fun _ => ?_)
        · walk_at "r"
          refine ⟨a_ty f3, ?_⟩
          walk_at "r"
          walk_at "r"
          refine w_I (by decide) ?_
          walk_at "r"
          have hm' : m < 60 := hm
          have hk' : k < 63 := by omega
          refine a_app f3 (by rw [List.length_map]; omega) ?_
          walk_at "r"
          refine w_I ⟨by decide, by decide⟩ ?_
          walk_at "r"
          refine ⟨_, rs' ++ [c % 840], _, rfl, e3.mut n1, by rw [upd_same, map_snoc], by rw [List.length_append]; simp; omega⟩
        · walk_at "r"
          exact ⟨_, rs', c, rfl, e3, f3, by omega⟩
      · rintro σ h' ⟨z', rs', c, rfl, e3, f3, z3⟩
        have z4 : rs'.length ≤ 100 * k + 60 := z3
        exact ⟨_, _, _, rs', rfl, e3, f3, by omega⟩
    · walk_at "r"
      refine r_R1 (by omega) ?_
      refine lp_range (fun m σ h' => ∃ z, ∃ rs' : List Int, ∃ c : Int, σ = [some (.ref a), some (.int 0), some (.int l), some (.ref p), some (.int (0 + (k : Int))), some (.int c), z] ∧ Ex H h' ∧ h' p = some (.lst (rs'.map V.int)) ∧ rs'.length ≤ 100 * k + m)
        ⟨_, rs, c0, rfl, e2, f2, by omega⟩ ?_ ?_
      · rintro m σ h' hm ⟨z', rs', c, rfl, e3, f3, z3⟩
        walk_at "r"
        refine w_I (.inr ⟨by decide, by decide⟩) ?_
        walk_at "r"
        refine w_I (.inl ⟨by decide, by decide⟩) ?_
        walk_at "r"
        walk_at "r"
        refine w_I (by decide) ?_
        walk_at "r"
        refine ⟨a_ty f3, ?_⟩
        walk_at "r"
        refine w_I ⟨by decide, by decide⟩ ?_
        walk_at "r"
        refine w_I (by decide) ?_
        walk_at "r"
        have hm' : m < 10 := hm
        have hk' : k < 63 := by omega
        refine a_app f3 (by rw [List.length_map]; omega) ?_
        walk_at "r"
        exact ⟨_, rs' ++ [_], _, rfl, e3.mut n1, by rw [upd_same, map_snoc], by rw [List.length_append]; simp; omega⟩
      · rintro σ h' ⟨z', rs', c, rfl, e3, f3, z3⟩
        have z4 : rs'.length ≤ 100 * k + 10 := z3
        exact ⟨_, _, _, rs', rfl, e3, f3, by omega⟩
  · rintro σ h ⟨x, y, z, rs, rfl, e2, f2, z2⟩
    walk_at "r"
    exact q p h rs n1 e2 f2 (by omega)
def pDraw : Sp := fun vs H Q _ => ∃ (b r : Addr) (m : Int), vs = [.ref b, .int m] ∧ Bx H b r ∧ 0 < m ∧ ∀ v H', 0 ≤ v → v < m → Ks [b] H H' → Bx H' b r → Q (.int v) H'
theorem ap_draw {H : Hp} {Q : VK} {E : XK} {b r : Addr} {m : Int} (h : Bx H b r) (hm : 0 < m) (k : ∀ v H', 0 ≤ v → v < m → Ks [b] H H' → Bx H' b r → Q (.int v) H') : pDraw [.ref b, .int m] H Q E := ⟨b, r, m, rfl, h, hm, k⟩
theorem ok__law_draw (T : Tx K mg) : FnOk P w K mg base CX0 1 T.a__law_draw T.e__law_draw p__law_draw pDraw := by
  refine T.d__law_draw.F.ok sc__law_draw (fun vs H Q E h => ?_) (fun cdv A outer s H vs Q E hr h => ?_)
  · obtain ⟨b, r, m, rfl, _⟩ := h
    rfl
  obtain ⟨b, r, m, rfl, hb, hm, q⟩ := h
  have nrb := bx_rb hb
  obtain ⟨n, ns, hb, hR, hz⟩ := hb
  refine ⟨_, (pss_cons (ps_set (i := 2) sc__law_draw.nd rfl (.inl rfl) (pe_ix (ixL K) (pv 0) pe_int (fun _ _ => rfl)))
    (pss_cons (ps_asg (pe_op op_add (pv 2) pe_int) (pg_sub (pv 0) pe_int set_list))
    (pss_cons (ps_if (pt_cmpR op_lt (pv 2) (pe_callB (lenK K) (by rfl) T.b_len PySem.boot_len (pa_cons (pe_ix (ixL K) (pv 0) pe_int (fun _ _ => rfl)) pa_nil)) (nomark _)) (pss_one (ps_ret (pe_op op_mod (pe_callTy k_int (by rfl) T.b_int (by decide +kernel) (pa_cons (pe_ix (ixL K) (pe_ix (ixL K) (pv 0) pe_int (fun _ _ => rfl)) (pv 2) (fun _ _ => rfl)) pa_nil)) (pv 1)))) pss_nil)
    (pss_one (ps_ret (pe_op op_mod (pe_callTy k_int (by rfl) T.b_int (by decide +kernel) (pa_cons (pe_op op_add (pe_op op_mul (pv 2) pe_int) pe_int) pa_nil)) (pv 1))))))), ?_⟩
  walk_at "r"
  refine a_ixL (v := .int n) (SqL.of hb) rfl ?_
  walk_at "r"
  refine a_setL (j := 1) hb (show 1 < 2 by decide) ?_
  have fb : upd H b (.lst [.ref r, .int ((n : Int) + 1)]) b = some (.lst [.ref r, .int (((n + 1 : Nat)) : Int)]) := by rw [upd_same]; simp
  have fr : upd H b (.lst [.ref r, .int ((n : Int) + 1)]) r = some (.lst (ns.map V.int)) := by rw [upd_ne nrb]; exact hR
  have ek : Ks [b] H (upd H b (.lst [.ref r, .int ((n : Int) + 1)])) := (Ks.refl _ _).upd (by simp)
  change tSeq _ _ _ _ (upd H b (.lst [.ref r, .int ((n : Int) + 1)]))
  generalize upd H b (.lst [.ref r, .int ((n : Int) + 1)]) = H1 at fb fr ek ⊢
  have hB : Bx H1 b r := ⟨n + 1, ns, fb, fr, hz⟩
  walk_at "r"
  refine a_ixL (v := .ref r) (SqL.of fb) rfl ?_
  walk_at "r"
  refine a_lenL (SqL.of fr) ?_
  walk_at "r"
  refine ite2 (fun c => ?_) (fun c => ?_)
  · have c' : (n : Int) < ((ns.map V.int).length : Int) := of_decide_eq_true c
    rw [List.length_map] at c'
    have hn : n < ns.length := by omega
    walk_at "r"
    refine a_ixL (v := .ref r) (SqL.of fb) rfl ?_
    walk_at "r"
    refine a_ixL (v := .int ns[n]) (SqL.of fr) (atI_nat (by rw [List.getElem?_map]; simp [hn])) ?_
    walk_at "r"
    refine w_I hm ?_
    exact q _ H1 (Int.emod_nonneg _ (by omega)) (Int.emod_lt_of_pos _ hm) ek hB
  · walk_at "r"
    refine w_I (.inr ⟨by decide, by decide⟩) ?_
    walk_at "r"
    walk_at "r"
    refine w_I hm ?_
    exact q _ H1 (Int.emod_nonneg _ (by omega)) (Int.emod_lt_of_pos _ hm) ek hB
def pRight : Sp := fun vs H Q _ => ∃ (b r : Addr), vs = [.ref b] ∧ Bx H b r ∧ ∀ (x : R) H', Ks [b] H H' → Bx H' b r → Q (.str x.s) H'
theorem ok__law_right (T : Tx K mg) : FnOk P w K mg base CX0 2 T.a__law_right T.e__law_right p__law_right pRight := by
  refine T.d__law_right.F.ok sc__law_right (fun vs H Q E h => ?_) (fun cdv A outer s H vs Q E hr h => ?_)
  · obtain ⟨b, r, rfl, _⟩ := h
    rfl
  obtain ⟨b, r, rfl, hb, q⟩ := h
  refine ⟨_, (pss_one (ps_ret (pe_ix (ixL K) (pe_lst (pa_cons pe_str (pa_cons pe_str (pa_cons pe_str (pa_cons pe_str (pa_cons pe_str (pa_cons pe_str pa_nil))))))) (pe_call (ok__law_draw T) (hr.mono (by omega)) (by rfl) T.d__law_draw.m T.d__law_draw.F.kp T.d__law_draw.b .nil pass0 (pa_cons (pv 0) (pa_cons pe_int pa_nil))) (fun _ _ => rfl)))), ?_⟩
  walk_at "r"
  refine new_lst (xs := [_, _, _, _, _, _]) (by simp) fun p H1 n1 e1 f1 => ?_
  walk_at "r"
  refine ap_draw (bx_ex hb e1) (by decide) fun v H2 h0 h1 e2 b2 => ?_
  walk_at "r"
  have f2 : H2 p = some (.lst (tv [.rw, .rw, .r, .w, .n, .rw])) := by walk_at "tr"
  obtain ⟨k, rfl⟩ : ∃ k : Nat, v = (k : Int) := ⟨v.toNat, by omega⟩
  have hk : k < 6 := by omega
  have hx : ∃ x, [R.rw, .rw, .r, .w, .n, .rw][k]? = some x := ⟨_, List.getElem?_eq_getElem hk⟩
  obtain ⟨x, hx⟩ := hx
  refine a_ixL (v := .str x.s) (SqL.of f2) (atI_nat (tv_at hx)) ?_
  exact q x H2 (by walk_at "ks") b2
def pRights (K : PySem.W.Frag) : Sp := fun vs H Q _ => ∃ (b r : Addr) (m : Int), vs = [.ref b, .int m] ∧ Bx H b r ∧ 0 ≤ m ∧ m ≤ 1000 ∧ ∀ p (xs : List R) H', H p = none → p ≠ b → p ≠ r → (xs.length : Int) = m → Ks [b] H H' → Bx H' b r → Tu H' p (tv xs) → Q (.ref p) H'
theorem tv_snoc (xs : List R) (x : R) : tv xs ++ [.str x.s] = tv (xs ++ [x]) := by unfold tv; rw [List.map_append]; rfl
theorem ok__law_rights (T : Tx K mg) : FnOk P w K mg base CX0 3 T.a__law_rights T.e__law_rights p__law_rights (pRights K) := by
  refine T.d__law_rights.F.ok sc__law_rights (fun vs H Q E h => ?_) (fun cdv A outer s H vs Q E hr h => ?_)
  · obtain ⟨b, r, m, rfl, _⟩ := h
    rfl
  obtain ⟨b, r, m, rfl, hb, h0, h1, q⟩ := h
  refine ⟨_, (pss_one (ps_ret (pe_callTy (tupFK K) (by rfl) T.b_tuple (by decide +kernel) (pa_cons (pe_lc (own := [("k", 2)]) (g := gName 2) rfl sc__law_rights.nd  (pi_range1 (by rfl) T.b_range (pa_cons (pv 1) pa_nil)) (blkOk_by (own := [("k", 2)]) (N := n__law_rights) (sc := defScope s__law_rights) (by decide +kernel)) (fun _ _ _ _ _ => (pg_name (i := 2) sc__law_rights.nd rfl (Or.inl rfl))) (fun _ _ _ _ _ => pts_nil) (fun _ _ _ _ _ => (pe_call (ok__law_right T) (hr.mono (by omega)) (by rfl) T.d__law_right.m T.d__law_right.F.kp T.d__law_right.b .nil pass0 (pa_cons (pv 0) pa_nil)))) pa_nil)))), ?_⟩
  walk_at "r"
  refine c_R1 (by omega) ?_
  refine cp_range (fun p k h => ∃ xs : List R, xs.length = k ∧ h p = some (.lst (tv xs)) ∧ Ks [b] H h ∧ Bx h b r) (fun p n => ⟨[], rfl, upd_same, Ks.of (Ex.new n), bx_ex hb (Ex.new n)⟩) ?_ ?_
  · rintro p k h np hk ⟨xs, hl, f, e, b1⟩
    have nb : p ≠ b := (bx_nb hb np).symm
    walk_at "r"
    refine ⟨rfl, ?_⟩
    walk_at "r"
    refine ⟨b, r, rfl, b1, fun x H2 e2 b2 => ?_⟩
    have f2 : H2 p = some (.lst (tv xs)) := by walk_at "tr"
    refine ⟨tv xs, f2, sz_lt (by rw [tv_len]; omega), xs ++ [x], by simp [hl], by rw [upd_same, tv_snoc], ?_, ?_⟩
    · exact (e.trans e2).mut np
    · exact bx_ks (S := [p]) b2 (fun a o n q => by rw [upd_ne (fun z => n (by rw [z]; simp))]; exact q) (nin_cons (bx_nb hb np) nin_nil) (nin_cons (bx_nr hb np) nin_nil)
  · rintro p h np ⟨xs, hl, f, e, b1⟩
    walk_at "r"
    refine a_tupFL (SqL.of f) fun p2 H2 n2 e2 f2 => ?_
    have n3 : H p2 = none := by
      cases z : H p2 with
      | none => rfl
      | some o =>
        by_cases zb : p2 = b
        · obtain ⟨_, _, g, _⟩ := b1
          rw [← zb, n2] at g
          cases g
        · rw [e p2 o (nin_cons zb nin_nil) z] at n2
          cases n2
    exact q p2 xs H2 n3 (bx_nb hb n3).symm (bx_nr hb n3).symm (by omega) (by walk_at "ks") (bx_ex b1 e2) f2
end
section
variable {P : Program} {w : World} {K : PySem.W.Frag} {mg : Str → Option Value} {base : Heap}
def pGNm : Sp := fun vs H Q _ => vs = [] ∧ ∀ p H1, H p = none → Ex H H1 → H1 p = some (.lst (NM.map V.str)) → Q (.ref p) H1
def rowN (c : Nat) : List Str := ("uvxyz" : Str).cps.toList.map fun d => (⟨#[c]⟩ : Str) ++ ⟨#[d]⟩
theorem all_NM : ("abcdefgh" : Str).cps.toList.flatMap rowN = NM := by decide +kernel
theorem lp_str {σ : L2.St} {H : Hp} {g : TG} {ts : TS} {D : Ends} {z : Str} (J : Nat → L2.St → Hp → Prop) (h0 : J 0 σ H)
    (hs : ∀ (k c : Nat) (s : L2.St) (h : Hp), z.cps.toList[k]? = some c → J k s h → g (.str ⟨#[c]⟩) s h fun s2 h2 => ts { D with nx := J (k + 1), ct := J (k + 1), bk := D.nx } s2 h2)
    (hd : ∀ s h, J z.cps.size s h → D.nx s h) : LoopG (Its z) g ts D σ H := by
  refine ⟨fun i m σ h => m = z.cps.size - i ∧ i ≤ z.cps.size ∧ J i σ h, ⟨_, rfl, Nat.zero_le _, h0⟩, ?_⟩
  rintro i m σ h ⟨rfl, hi, q⟩
  by_cases hlt : i < z.cps.size
  · refine .inr ⟨hlt, J (i + 1), fun σ' h' q' => ⟨z.cps.size - (i + 1), by omega, rfl, hlt, q'⟩, fun x h' y => ?_⟩
    obtain ⟨e, c, y, e2⟩ := y
    subst e e2
    exact hs i c _ _ (by simpa using y) q
  · have e : i = z.cps.size := by omega
    subst e
    exact .inl ⟨Nat.le_refl _, hd σ h q⟩
theorem ok__law_names (T : Tx K mg) : FnOk P w K mg base CX0 1 T.a__law_names T.e__law_names p__law_names pGNm := by
  refine T.d__law_names.F.ok sc__law_names (fun vs H Q E h => ?_) (fun cdv A outer s H vs Q E hr h => ?_)
  · obtain ⟨rfl, _⟩ := h
    rfl
  obtain ⟨rfl, q⟩ := h
  refine ⟨_, (pss_cons (ps_set (i := 0) sc__law_names.nd rfl (.inl rfl) (pe_lst pa_nil))
    (pss_cons (ps_for PassesOwn.never rfl (pi_str pe_str) (pg_name (i := 1) sc__law_names.nd rfl (.inr rfl)) (pss_one (ps_expr (pe_bm PySem.F.plainAttrs_list PySem.F.slot_list_extend PySem.F.type_list_extend mt_extend (pv 0) (pa_cons (pe_lc (own := [("b", 2)]) (g := gName 2) rfl sc__law_names.nd  (pi_str pe_str) (blkOk_by (own := [("b", 2)]) (N := n__law_names) (sc := defScope s__law_names) (by decide +kernel)) (fun _ _ _ _ _ => (pg_name (i := 2) sc__law_names.nd rfl (Or.inl rfl))) (fun _ _ _ _ _ => pts_nil) (fun _ _ _ _ _ => (pe_op op_add_str (pv 1) (pv 2)))) pa_nil)))))
    (pss_one (ps_ret (pv 0))))), ?_⟩
  walk_at "r"
  refine new_lst (xs := []) (by simp) fun l H1 n1 e1 f1 => ?_
  walk_at "r"
  refine lp_str (fun k σ h => (∃ x1 x2, σ = [some (.ref l), x1, x2]) ∧ Ex H h ∧ ∃ xs : List Str, h l = some (.lst (xs.map V.str)) ∧ xs = (("abcdefgh" : Str).cps.toList.take k).flatMap rowN ∧ xs.length ≤ 5 * k) ⟨⟨_, _, rfl⟩, e1, [], f1, rfl, Nat.le_refl _⟩ ?_ ?_
  · rintro k c σ h hc ⟨⟨x1, x2, rfl⟩, e2, xs, f2, ex, lx⟩
    have hk := at_lt hc
    have hk8 : k < 8 := hk
    walk_at "r"
    refine ⟨a_ty f2, ?_⟩
    walk_at "r"
    refine cp_chars (fun D j h2 => Ex h h2 ∧ ∃ ys : List Str, h2 D = some (.lst (ys.map V.str)) ∧ ys = (("uvxyz" : Str).cps.toList.take j).map (fun d => (⟨#[c]⟩ : Str) ++ ⟨#[d]⟩)) (fun D n => ⟨Ex.new n, [], upd_same, rfl⟩) ?_ ?_
    · rintro D j d h2 nD hd ⟨e3, ys, f3, ey⟩
      have hd' : ("uvxyz" : Str).cps.toList[j]? = some d := by simpa using hd
      have hj := at_lt hd'
      have hj5 : j < 5 := hj
      walk_at "r"
      refine ⟨rfl, ?_⟩
      walk_at "r"
      refine ⟨_, _, rfl, rfl, sz_of (show (1 : Nat) + 1 ≤ 100000 by decide), ?_⟩
      have ly : ys.length ≤ 5 := by rw [ey, List.length_map, List.length_take]; omega
      refine ⟨_, f3, sz_lt (by rw [List.length_map]; omega), e3.mut nD, ys ++ [(⟨#[c]⟩ : Str) ++ ⟨#[d]⟩], by rw [upd_same, List.map_append]; rfl, ?_⟩
      rw [take_snoc hd', List.map_append, ey]
      rfl
    · rintro D h2 nD ⟨e3, ys, f3, ey⟩
      walk_at "r"
      have ly : ys.length = 5 := by rw [ey, List.length_map]; decide +kernel
      refine a_extend (e3 _ _ f2) f3 (by rw [List.length_map, List.length_map]; omega) ?_
      refine ⟨⟨_, _, rfl⟩, (e2.trans e3).mut n1, xs ++ ys, by rw [upd_same, List.map_append], ?_, by rw [List.length_append]; omega⟩
      rw [take_snoc hc, List.flatMap_append, ex, ey]
      have z : ∀ A B C : List Str, B = C → A ++ B = A ++ C := fun A B C h => by rw [h]
      exact z _ _ _ (by show _ = rowN c ++ []; rw [List.append_nil]; rfl)
  · rintro σ h ⟨⟨x1, x2, rfl⟩, e2, xs, f2, ex, lx⟩
    walk_at "r"
    have e : xs = NM := by
      rw [ex, ← all_NM]
      rfl
    rw [e] at f2
    exact q l h n1 e2 f2
theorem str_at {xs : List Str} {j : Nat} {x : Str} (h : xs[j]? = some x) : (xs.map V.str)[j]? = some (.str x) := by
  rw [List.getElem?_map, h]
  rfl
theorem nat_of {v m : Int} (h0 : 0 ≤ v) (h1 : v < m) : ∃ j : Nat, v = (j : Int) ∧ (j : Int) < m := ⟨v.toNat, by omega, by omega⟩
theorem or_q {t u : TT} {σ : L2.St} {H : Hp} {N : Bool → Hp → Prop} {a c : Bool} (ht : ∀ M : Bool → Hp → Prop, M a H → t σ H M) (hu : ∀ M : Bool → Hp → Prop, M c H → u σ H M) (h : N (a || c) H) : tOr t u σ H N := w_or (ht _ (by
  cases a with
  | true => exact h
  | false => exact hu _ h))
theorem ok__law_source (T : Tx K mg) : FnOk P w K mg base CX0 2 T.a__law_source T.e__law_source p__law_source (pGSrc K) := by
  refine T.d__law_source.F.ok sc__law_source (fun vs H Q E h => ?_) (fun cdv A outer s H vs Q E hr h => ?_)
  · obtain ⟨S, b, r, pf, pn, pt, g, fr, xs, e, n, W, rfl, _⟩ := h
    rfl
  obtain ⟨S, b, r, pf, pn, pt, g, fr, xs, e, n, W, rfl, gs, hn, hg, q⟩ := h
  have hu := hu_of hr
  have hb : [b] ⊆ S := by simpa using gs.m.1
  refine ⟨_, (pss_cons (ps_set (i := 4) sc__law_source.nd rfl (.inl rfl) (pe_call (ok__law_draw T) (hr.mono (by omega)) (by rfl) T.d__law_draw.m T.d__law_draw.F.kp T.d__law_draw.b .nil pass0 (pa_cons (pv 0) (pa_cons pe_int pa_nil))))
    (pss_cons (ps_if (pt_cmpR op_eq (pe_call (ok__law_draw T) (hr.mono (by omega)) (by rfl) T.d__law_draw.m T.d__law_draw.F.kp T.d__law_draw.b .nil pass0 (pa_cons (pv 0) (pa_cons pe_int pa_nil))) pe_int (nomark _)) (pss_one (ps_ret (pe_tup (pa_cons pe_str (pa_cons (pe_tup (pa_cons pe_str (pa_cons pe_int pa_nil))) pa_nil))))) pss_nil)
    (pss_cons (ps_if (PW.pt (pw_or (pt_cmpR op_eq (pv 4) pe_int (nomark _)) (pw_or1 (pt_cmpR op_eq (pe_callB (lenK K) (by rfl) T.b_len PySem.boot_len (pa_cons (pv 1) pa_nil)) pe_int (nomark _))))) (pss_cons (ps_if (PW.pt (pw_or (pt_cmpR op_eq (pe_callB (lenK K) (by rfl) T.b_len PySem.boot_len (pa_cons (pv 3) pa_nil)) pe_int (nomark _)) (pw_or1 (pt_cmpR op_eq (pe_call (ok__law_draw T) (hr.mono (by omega)) (by rfl) T.d__law_draw.m T.d__law_draw.F.kp T.d__law_draw.b .nil pass0 (pa_cons (pv 0) (pa_cons pe_int pa_nil))) pe_int (nomark _))))) (pss_one (ps_ret (pe_tup (pa_cons pe_str (pa_cons (pe_call (ok__law_draw T) (hr.mono (by omega)) (by rfl) T.d__law_draw.m T.d__law_draw.F.kp T.d__law_draw.b .nil pass0 (pa_cons (pv 0) (pa_cons pe_int pa_nil))) pa_nil))))) pss_nil)
    (pss_one (ps_ret (pe_tup (pa_cons pe_str pa_nil))))) pss_nil)
    (pss_cons (ps_set (i := 5) sc__law_source.nd rfl (.inr rfl) (pe_ix (ixL K) (pv 1) (pe_op op_mod (pe_callTy k_int (by rfl) T.b_int (by decide +kernel) (pa_cons (pe_call (ok__law_draw T) (hr.mono (by omega)) (by rfl) T.d__law_draw.m T.d__law_draw.F.kp T.d__law_draw.b .nil pass0 (pa_cons (pv 0) (pa_cons pe_int pa_nil))) pa_nil)) (pe_callB (lenK K) (by rfl) T.b_len PySem.boot_len (pa_cons (pv 1) pa_nil))) (fun _ _ => rfl)))
    (pss_cons (ps_setLc (i := 6) (own := [("k", 7)]) (g := gName 7) rfl sc__law_source.nd rfl rfl (sw_true rfl rfl rfl (by decide +kernel)) (pi_range1 (by rfl) T.b_range (pa_cons (pe_callB (lenK K) (by rfl) T.b_len PySem.boot_len (pa_cons (pe_dget hu (pv 2) (pv 5) (fun _ _ => rfl)) pa_nil)) pa_nil)) (blkOk_by (own := [("k", 7)]) (N := n__law_source) (sc := defScope s__law_source) (by decide +kernel)) (fun _ _ _ _ _ => (pg_name (i := 7) sc__law_source.nd rfl (Or.inl rfl))) (fun _ _ _ _ _ => (pts_one (pt_cmpR op_eq (pe_op op_sub (pe_op op_sub (pe_callB (lenK K) (by rfl) T.b_len PySem.boot_len (pa_cons (pe_dget hu (pv 2) (pv 5) (fun _ _ => rfl)) pa_nil)) pe_int) (pv 7)) (pe_callB (lenK K) (by rfl) T.b_len PySem.boot_len (pa_cons (pv 3) pa_nil)) (nomark _)))) (fun _ _ _ _ _ => (pe_tup (pa_cons pe_str (pa_cons (pe_tup (pa_cons (pv 5) (pa_cons (pv 7) pa_nil))) pa_nil)))))
    (pss_cons (ps_set (i := 6) sc__law_source.nd rfl (.inl rfl) (pe_op op_cat (pv 6) (pe_lc (own := [("k", 7)]) (g := gName 7) rfl sc__law_source.nd  (pi_range1 (by rfl) T.b_range (pa_cons (pe_callB (lenK K) (by rfl) T.b_len PySem.boot_len (pa_cons (pe_dget hu (pv 2) (pv 5) (fun _ _ => rfl)) pa_nil)) pa_nil)) (blkOk_by (own := [("k", 7)]) (N := n__law_source) (sc := defScope s__law_source) (by decide +kernel)) (fun _ _ _ _ _ => (pg_name (i := 7) sc__law_source.nd rfl (Or.inl rfl))) (fun _ _ _ _ _ => (pts_one (pt_cmpR op_eq (pe_op op_sub (pe_callB (lenK K) (by rfl) T.b_len PySem.boot_len (pa_cons (pe_dget hu (pv 2) (pv 5) (fun _ _ => rfl)) pa_nil)) (pv 7)) (pe_callB (lenK K) (by rfl) T.b_len PySem.boot_len (pa_cons (pv 3) pa_nil)) (nomark _)))) (fun _ _ _ _ _ => (pe_tup (pa_cons pe_str (pa_cons (pe_tup (pa_cons (pv 5) (pa_cons (pv 7) pa_nil))) pa_nil)))))))
    (pss_cons (ps_if (PW.pt (pw_or (pt_cmpR op_eq (pe_callB (lenK K) (by rfl) T.b_len PySem.boot_len (pa_cons (pv 6) pa_nil)) pe_int (nomark _)) (pw_or1 (pt_cmpR op_eq (pe_call (ok__law_draw T) (hr.mono (by omega)) (by rfl) T.d__law_draw.m T.d__law_draw.F.kp T.d__law_draw.b .nil pass0 (pa_cons (pv 0) (pa_cons pe_int pa_nil))) pe_int (nomark _))))) (pss_one (ps_ret (pe_tup (pa_cons (pe_ix (ixL K) (pe_lst (pa_cons pe_str (pa_cons pe_str pa_nil))) (pe_call (ok__law_draw T) (hr.mono (by omega)) (by rfl) T.d__law_draw.m T.d__law_draw.F.kp T.d__law_draw.b .nil pass0 (pa_cons (pv 0) (pa_cons pe_int pa_nil))) (fun _ _ => rfl)) (pa_cons (pe_tup (pa_cons (pv 5) (pa_cons (pe_call (ok__law_draw T) (hr.mono (by omega)) (by rfl) T.d__law_draw.m T.d__law_draw.F.kp T.d__law_draw.b .nil pass0 (pa_cons (pv 0) (pa_cons pe_int pa_nil))) pa_nil))) pa_nil))))) pss_nil)
    (pss_one (ps_ret (pe_ix (ixL K) (pv 6) (pe_op op_mod (pe_callTy k_int (by rfl) T.b_int (by decide +kernel) (pa_cons (pe_call (ok__law_draw T) (hr.mono (by omega)) (by rfl) T.d__law_draw.m T.d__law_draw.F.kp T.d__law_draw.b .nil pass0 (pa_cons (pv 0) (pa_cons pe_int pa_nil))) pa_nil)) (pe_callB (lenK K) (by rfl) T.b_len PySem.boot_len (pa_cons (pv 6) pa_nil))) (fun _ _ => rfl))))))))))), ?_⟩
  walk_at "r"
  refine ap_draw gs.bx (by decide) fun v1 H1 _ _ k1 b1 => ?_
  walk_at "r"
  have gs1 := gs.draw k1 b1
  refine ap_draw b1 (by decide) fun v2 H2 _ _ k2 b2 => ?_
  walk_at "r"
  have gs2 := gs1.draw k2 b2
  have k12 := k1.trans k2
  have hg2 : SqT K (dl S H2) g (tv W) := ex_st hg (dl_ks (k12.mono (fun a ha => hb ha)))
  refine ite2 (fun _ => ?_) (fun _ => ?_)
  · walk_at "r"
    refine new_tup (by simp) fun t1 H3 n3 e3 f3 => ?_
    walk_at "r"
    refine new_tup (by simp) fun t2 H4 n4 e4 f4 => ?_
    have a3 := gs2.al.ex e3
    exact q (.ref t2) (.val "zz" 0) H4 (k12.trans (Ks.of (e3.trans e4))) (bx_ex b2 (e3.trans e4)) (Dp.in f4 (a3.nin n4) (.cons (.str _) (.cons (Dp.in (e4 _ _ f3) (gs2.al.nin n3) (.cons (.str _) (.cons (.int _) .nil))) .nil))) ⟨o_zz, by decide⟩
  have nmH : H2 pn = some (.lst (xs.map V.str)) := gs2.nm
  have hg2' : SqT K H2 g (tv W) := ex_st hg2 (dl_le _ _)
  have small : ∀ (H3 : Hp), Ks [b] H H3 → Bx H3 b r → Al S H3 → ∀ v : Int, 0 ≤ v → v < 9 → ∀ t H4, H3 t = none → Ex H3 H4 → H4 t = some (.tup [.str "number", .int v]) → Q (.ref t) H4 := fun H3 k3 b3 a3 v h0 h1 t H4 n4 e4 f4 =>
    q (.ref t) (.num v) H4 (k3.trans (Ks.of e4)) (bx_ex b3 e4) (Dp.in f4 (a3.nin n4) (.cons (.str _) (.cons (.int _) .nil))) ⟨h0, by omega⟩
  have nul : ∀ (H3 : Hp), Ks [b] H H3 → Bx H3 b r → Al S H3 → ∀ t H4, H3 t = none → Ex H3 H4 → H4 t = some (.tup [.str "null"]) → Q (.ref t) H4 := fun H3 k3 b3 a3 t H4 n4 e4 f4 =>
    q (.ref t) .null H4 (k3.trans (Ks.of e4)) (bx_ex b3 e4) (Dp.in f4 (a3.nin n4) (.cons (.str _) .nil)) trivial
  with_reducible refine w_next ?_
  with_reducible refine w_seq ?_
  with_reducible refine w_if ?_
  refine or_q (a := decide (v1 = 0)) (c := decide (xs.length = 0)) (fun M h => by walk_at "r"; exact h) (fun M h => by
    walk_at "r"
    refine a_lenL (SqL.of nmH) ?_
    walk_at "r"
    rw [List.length_map]
    have z : decide ((xs.length : Int) = 0) = decide (xs.length = 0) := by
      by_cases c : xs.length = 0
      · rw [c]; rfl
      · rw [decide_eq_false c, decide_eq_false (by omega)]
    rw [z]
    exact h) ?_
  refine ite2 (fun _ => ?_) (fun c => ?_)
  · walk_at "r"
    refine a_lenT hg2' ?_
    walk_at "r"
    refine ite2 (fun _ => ?_) (fun _ => ?_)
    · walk_at "r"
      refine ap_draw b2 (by decide) fun v3 H3 h0 h1 k3 b3 => ?_
      walk_at "r"
      refine new_tup (by simp) fun t H4 n4 e4 f4 => ?_
      exact small H3 (k12.trans k3) b3 (gs2.al.bx k3 b3) v3 h0 h1 t H4 n4 e4 f4
    · walk_at "r"
      refine ap_draw b2 (by decide) fun v5 H5 _ _ k5 b5 => ?_
      walk_at "r"
      have k25 := k12.trans k5
      have a5 := gs2.al.bx k5 b5
      refine ite2 (fun _ => ?_) (fun _ => ?_)
      · walk_at "r"
        refine ap_draw b5 (by decide) fun v3 H3 h0 h1 k3 b3 => ?_
        walk_at "r"
        refine new_tup (by simp) fun t H4 n4 e4 f4 => ?_
        exact small H3 (k25.trans k3) b3 (a5.bx k3 b3) v3 h0 h1 t H4 n4 e4 f4
      · walk_at "r"
        refine new_tup (by simp) fun t H4 n4 e4 f4 => ?_
        exact nul H5 k25 b5 a5 t H4 n4 e4 f4
  have cx : xs.length ≠ 0 := fun z => c (by rw [z]; simp)
  walk_at "r"
  refine ap_draw b2 (by decide) fun v3 H3 h30 _ k3 b3 => ?_
  walk_at "r"
  have gs3 := gs2.draw k3 b3
  have k13 := k12.trans k3
  refine a_lenL (SqL.of gs3.nm) ?_
  walk_at "r"
  rw [List.length_map]
  refine w_I (show (0 : Int) < (xs.length : Int) by omega) ?_
  obtain ⟨j, ej, hj⟩ := nat_of (v := v3 % (xs.length : Int)) (m := xs.length) (Int.emod_nonneg _ (by omega)) (Int.emod_lt_of_pos _ (by omega))
  rw [ej]
  obtain ⟨x, hx⟩ : ∃ x, xs[j]? = some x := ⟨_, List.getElem?_eq_getElem (by omega)⟩
  refine a_ixL (v := .str x) (SqL.of gs3.nm) (atI_nat (str_at hx)) ?_
  walk_at "r"
  obtain ⟨xo, U, hU, u1, u4⟩ := gs3.kn x (List.mem_of_getElem? hx)
  have hn' : n ≤ 1000 := by omega
  have T3 := gs3.t.d hn'
  have hg3 : SqT K H3 g (tv W) := ex_st (ex_st hg2 (dl_ks (k3.mono (fun a ha => hb ha)))) (dl_le _ _)
  -- the places that fit
  refine T3.get hU fun a ha => ?_
  have ha' := ex_st ha (dl_le S H3)
  walk_at "r"
  refine a_lenT ha' ?_
  walk_at "r"
  rw [tv_len]
  refine c_R1 (by omega) ?_
  refine cp_range (fun l k h => Ex H3 h ∧ ∃ acc ss, h l = some (.lst acc) ∧ DpAll K (dl (l :: S) h) acc (List.map sD ss) ∧ (∀ s ∈ ss, sO s) ∧ acc.length ≤ k) (fun l n => ⟨Ex.new n, [], [], upd_same, .nil, (fun s hs => by cases hs), Nat.le_refl _⟩) ?_ ?_
  · rintro l k h nl hk ⟨e4, acc, ss, f4, D4, so, l4⟩
    have hk5 : k < 5 := by omega
    have k0 : (0 : Int) + (k : Int) = ((k : Nat) : Int) := Int.zero_add _
    rw [k0]
    walk_at "r"
    refine ⟨rfl, ?_⟩
    walk_at "r"
    refine (T3.ex' e4).get hU fun a2 ha2 => ?_
    walk_at "r"
    refine a_lenT (ex_st ha2 (dl_le S h)) ?_
    walk_at "r"
    refine a_lenT (ex_st hg3 e4) ?_
    walk_at "r"
    refine ite2 (fun _ => ?_) (fun _ => ⟨e4, acc, ss, f4, D4, so, by omega⟩)
    walk_at "r"
    refine new_tup (by simp) fun t1 h5 n5 e5 f5 => ?_
    walk_at "r"
    refine new_tup (by simp) fun t2 h6 n6 e6 f6 => ?_
    have al4 := gs3.al.add e4 f4
    have al5 := al4.ex e5
    have f46 := (e5.trans e6) _ _ f4
    refine ⟨acc, f46, sz_lt (by omega), (e4.trans (e5.trans e6)).mut nl, acc ++ [.ref t2], ss ++ [.val x k], upd_same, ?_, ?_, by rw [List.length_append]; simp; omega⟩
    · rw [dl_upd (List.mem_cons_self ..), List.map_append]
      exact dpa_snoc (dpa_ex (dl_ex (e5.trans e6)) D4) (Dp.in f6 (al5.nin n6) (.cons (.str _) (.cons (Dp.in (e6 _ _ f5) (al4.nin n5) (.cons (.str _) (.cons (.int _) .nil))) .nil)))
    · intro s hs
      rcases List.mem_append.mp hs with hs | hs
      · exact so s hs
      · rw [List.mem_singleton] at hs
        rw [hs]
        exact ⟨xo, by omega⟩
  rintro l1 h4 nl1 ⟨e4, acc1, ss1, f4, D4, so1, l4⟩
  walk_at "r"
  have T4 := T3.ex' e4
  refine T4.get hU fun a2 ha2 => ?_
  walk_at "r"
  refine a_lenT (ex_st ha2 (dl_le S h4)) ?_
  walk_at "r"
  rw [tv_len]
  refine c_R1 (by omega) ?_
  have gs4 := gs3.ex e4
  have l1S : l1 ∉ S := gs3.al.nin nl1
  refine cp_range (fun l k h => Ex h4 h ∧ ∃ acc ss, h l = some (.lst acc) ∧ DpAll K (dl (l :: S) h) acc (List.map sD ss) ∧ (∀ s ∈ ss, sO s) ∧ acc.length ≤ k) (fun l n => ⟨Ex.new n, [], [], upd_same, .nil, (fun s hs => by cases hs), Nat.le_refl _⟩) ?_ ?_
  · rintro l k h nl hk ⟨e5, acc, ss, f5, D5, so, l5⟩
    have hk5 : k < 5 := by omega
    have k0 : (0 : Int) + (k : Int) = ((k : Nat) : Int) := Int.zero_add _
    rw [k0]
    walk_at "r"
    refine ⟨rfl, ?_⟩
    walk_at "r"
    refine (T4.ex' e5).get hU fun a3 ha3 => ?_
    walk_at "r"
    refine a_lenT (ex_st ha3 (dl_le S h)) ?_
    walk_at "r"
    refine a_lenT (ex_st hg3 (e4.trans e5)) ?_
    walk_at "r"
    refine ite2 (fun _ => ?_) (fun _ => ⟨e5, acc, ss, f5, D5, so, by omega⟩)
    walk_at "r"
    refine new_tup (by simp) fun t1 h6 n6 e6 f6 => ?_
    walk_at "r"
    refine new_tup (by simp) fun t2 h7 n7 e7 f7 => ?_
    have al5 := gs4.al.add e5 f5
    have al6 := al5.ex e6
    have f57 := (e6.trans e7) _ _ f5
    refine ⟨acc, f57, sz_lt (by omega), (e5.trans (e6.trans e7)).mut nl, acc ++ [.ref t2], ss ++ [.adr x k], upd_same, ?_, ?_, by rw [List.length_append]; simp; omega⟩
    · rw [dl_upd (List.mem_cons_self ..), List.map_append]
      exact dpa_snoc (dpa_ex (dl_ex (e6.trans e7)) D5) (Dp.in f7 (al6.nin n7) (.cons (.str _) (.cons (Dp.in (e7 _ _ f6) (al5.nin n6) (.cons (.str _) (.cons (.int _) .nil))) .nil)))
    · intro s hs
      rcases List.mem_append.mp hs with hs | hs
      · exact so s hs
      · rw [List.mem_singleton] at hs
        rw [hs]
        exact ⟨xo, by omega⟩
  rintro l2 h5 nl2 ⟨e5, acc2, ss2, f5, D5, so2, l5⟩
  walk_at "r"
  refine a_cat (e5 _ _ f4) f5 (by omega) fun l3 h6 n6 e6 f6 => ?_
  walk_at "r"
  have gs6 := gs4.ex (e5.trans e6)
  have k16 : Ks [b] H h6 := k13.trans (Ks.of (e4.trans (e5.trans e6)))
  have D6 : DpAll K (dl S h6) (acc1 ++ acc2) (List.map sD (ss1 ++ ss2)) := by
    rw [List.map_append]
    exact dpa_app (dpa_ex (dl_ex (e5.trans e6)) (dpa_ex (dl_sub (fun a ha => List.mem_cons_of_mem _ ha)) D4)) (dpa_ex (dl_ex e6) (dpa_ex (dl_sub (fun a ha => List.mem_cons_of_mem _ ha)) D5))
  have so3 : ∀ s ∈ ss1 ++ ss2, sO s := fun s hs => (List.mem_append.mp hs).elim (so1 s) (so2 s)
  have l6 : (acc1 ++ acc2).length = (ss1 ++ ss2).length := by rw [dpa_len D6, List.length_map]
  clear D4 D5 so1 so2 f4 f5 l4 l5
  generalize acc1 ++ acc2 = acc at f6 D6 l6
  generalize ss1 ++ ss2 = ss at D6 so3 l6
  have wild : ∀ (H7 : Hp), Ks [b] H H7 → Bx H7 b r → Al S H7 → ∀ (w2 w3 : Int), 0 ≤ w2 → w2 < 2 → 0 ≤ w3 → w3 < 3 → ∀ t1 t2 H8 H9 (kw : Str), H7 t1 = none → Ex H7 H8 → H8 t1 = some (.tup [.str x, .int w3]) → H8 t2 = none → Ex H8 H9 → H9 t2 = some (.tup [.str kw, .ref t1]) → kw = "value" ∨ kw = "address" → Q (.ref t2) H9 := fun H7 k7 b7 a7 w2 w3 _ _ h0 h1 t1 t2 H8 H9 kw m1 x1 g1 m2 x2 g2 hw => by
    obtain ⟨j3, rfl, hj3⟩ := nat_of h0 h1
    have dpl : Dp K (dl S H9) (.ref t1) (plD x j3) := Dp.in (x2 _ _ g1) (a7.nin m1) (.cons (.str _) (.cons (.int _) .nil))
    have kk := k7.trans (Ks.of (x1.trans x2))
    have bb := bx_ex b7 (x1.trans x2)
    rcases hw with rfl | rfl
    · exact q (.ref t2) (.val x j3) H9 kk bb (Dp.in g2 ((a7.ex x1).nin m2) (.cons (.str _) (.cons dpl .nil))) ⟨xo, by omega⟩
    · exact q (.ref t2) (.adr x j3) H9 kk bb (Dp.in g2 ((a7.ex x1).nin m2) (.cons (.str _) (.cons dpl .nil))) ⟨xo, by omega⟩
  refine a_lenL (SqL.of f6) ?_
  walk_at "r"
  refine ite2 (fun _ => ?_) (fun ce => ?_)
  · walk_at "r"
    refine new_lst (by simp) fun lw H7 n7 e7 f7 => ?_
    walk_at "r"
    refine ap_draw (bx_ex gs6.bx e7) (by decide) fun w2 H8 p0 p1 k8 b8 => ?_
    walk_at "r"
    obtain ⟨j2, rfl, hj2⟩ := nat_of p0 p1
    have nlb : lw ≠ b := (bx_nb gs6.bx n7).symm
    have f8 : H8 lw = some (.lst [.str "value", .str "address"]) := k8 _ _ (by simpa using nlb) f7
    obtain ⟨kw, hkw, hw⟩ : ∃ kw : Str, [V.str "value", V.str "address"][j2]? = some (.str kw) ∧ (kw = "value" ∨ kw = "address") := by
      have : j2 = 0 ∨ j2 = 1 := by omega
      rcases this with rfl | rfl
      · exact ⟨"value", rfl, .inl rfl⟩
      · exact ⟨"address", rfl, .inr rfl⟩
    refine a_ixL (v := .str kw) (SqL.of f8) (atI_nat hkw) ?_
    walk_at "r"
    refine ap_draw b8 (by decide) fun w3 H9 p2 p3 k9 b9 => ?_
    walk_at "r"
    refine new_tup (by simp) fun t1 H10 n10 e10 f10 => ?_
    walk_at "r"
    refine new_tup (by simp) fun t2 H11 n11 e11 f11 => ?_
    have a9 := ((gs6.al.ex e7).bx k8 b8).bx k9 b9
    exact wild H9 (((k16.trans (Ks.of e7)).trans k8).trans k9) b9 a9 _ w3 p0 p1 p2 p3 t1 t2 H10 H11 kw n10 e10 f10 n11 e11 f11 hw
  · walk_at "r"
    refine ap_draw gs6.bx (by decide) fun w0 h7 _ _ k7 b7 => ?_
    walk_at "r"
    have gs7 := gs6.draw k7 b7
    have nl3 : l3 ≠ b := (bx_nb (bx_ex gs4.bx e5) n6).symm
    have f67 : h7 l3 = some (.lst acc) := k7 _ _ (by simpa using nl3) f6
    have D7 : DpAll K (dl S h7) acc (List.map sD ss) := dpa_ex (dl_ks (k7.mono (fun a ha => hb ha))) D6
    refine ite2 (fun _ => ?_) (fun _ => ?_)
    · walk_at "r"
      refine new_lst (by simp) fun lw H7 n7 e7 f7 => ?_
      walk_at "r"
      refine ap_draw (bx_ex gs7.bx e7) (by decide) fun w2 H8 p0 p1 k8 b8 => ?_
      walk_at "r"
      obtain ⟨j2, rfl, hj2⟩ := nat_of p0 p1
      have nlb : lw ≠ b := (bx_nb gs7.bx n7).symm
      have f8 : H8 lw = some (.lst [.str "value", .str "address"]) := k8 _ _ (by simpa using nlb) f7
      obtain ⟨kw, hkw, hw⟩ : ∃ kw : Str, [V.str "value", V.str "address"][j2]? = some (.str kw) ∧ (kw = "value" ∨ kw = "address") := by
        have : j2 = 0 ∨ j2 = 1 := by omega
        rcases this with rfl | rfl
        · exact ⟨"value", rfl, .inl rfl⟩
        · exact ⟨"address", rfl, .inr rfl⟩
      refine a_ixL (v := .str kw) (SqL.of f8) (atI_nat hkw) ?_
      walk_at "r"
      refine ap_draw b8 (by decide) fun w3 H9 p2 p3 k9 b9 => ?_
      walk_at "r"
      refine new_tup (by simp) fun t1 H10 n10 e10 f10 => ?_
      walk_at "r"
      refine new_tup (by simp) fun t2 H11 n11 e11 f11 => ?_
      have a9 := ((gs7.al.ex e7).bx k8 b8).bx k9 b9
      exact wild H9 ((((k16.trans k7).trans (Ks.of e7)).trans k8).trans k9) b9 a9 _ w3 p0 p1 p2 p3 t1 t2 H10 H11 kw n10 e10 f10 n11 e11 f11 hw
    · walk_at "r"
      refine ap_draw gs7.bx (by decide) fun w1 h8 p0 _ k8 b8 => ?_
      walk_at "r"
      have f8 : h8 l3 = some (.lst acc) := k8 _ _ (by simpa using nl3) f67
      have D8 : DpAll K (dl S h8) acc (List.map sD ss) := dpa_ex (dl_ks (k8.mono (fun a ha => hb ha))) D7
      refine a_lenL (SqL.of f8) ?_
      walk_at "r"
      have la : acc.length ≠ 0 := fun z => ce (by rw [z]; rfl)
      refine w_I (show (0 : Int) < (acc.length : Int) by omega) ?_
      obtain ⟨j4, ej4, hj4⟩ := nat_of (v := w1 % (acc.length : Int)) (m := acc.length) (Int.emod_nonneg _ (by omega)) (Int.emod_lt_of_pos _ (by omega))
      rw [ej4]
      obtain ⟨v4, hv4⟩ : ∃ v4, acc[j4]? = some v4 := ⟨_, List.getElem?_eq_getElem (by omega)⟩
      obtain ⟨d4, hd4, dv4⟩ := dpa_at D8 hv4
      rw [List.getElem?_map] at hd4
      cases hs4 : ss[j4]? with
      | none => rw [hs4] at hd4; cases hd4
      | some s4 =>
      rw [hs4] at hd4
      cases hd4
      refine a_ixL (v := v4) (SqL.of f8) (atI_nat hv4) ?_
      exact q v4 s4 h8 ((k16.trans k7).trans k8) b8 dv4 (so3 s4 (List.mem_of_getElem? hs4))
end
section
variable {P : Program} {w : World} {K : PySem.W.Frag} {mg : Str → Option Value} {base : Heap}
theorem lenpos (n : Nat) : decide ((0 : Int) < (n : Int)) = decide (0 < n) := by
  by_cases c : 0 < n
  · rw [decide_eq_true c, decide_eq_true (by omega)]
  · rw [decide_eq_false c, decide_eq_false (by omega)]
def pGSt4 (K : PySem.W.Frag) : Sp := fun vs H Q _ => ∃ S b r pf pn pt pc fr xs e n fs cs, vs = [.ref b, .ref pf, .ref pn, .ref pt, .ref pc] ∧ GS K S H b r pf pn pt fr xs e n ∧ n ≤ 100 ∧ 1 ≤ fr.length ∧ SqL K H pc cs ∧ (pc ≠ b ∧ pc ≠ pf ∧ pc ≠ pn ∧ pc ≠ pt) ∧ DpAll K (dl S H) cs (List.map tfD fs) ∧ fs.length ≤ 10 ∧ (∀ g ∈ fs, nmO g.n ∧ g.p.length ≤ 4) ∧
  ∀ v st fr' xs' e' H', Ks (M4 b pf pn pt) H H' → GS K S H' b r pf pn pt fr' xs' e' (n + 1) → Dp K (dl S H') v (stD st) → stO st → (∀ q ∈ lets [st], q.2.length ≤ 4) → cf fs st → fr = (lets [st]).map Prod.fst ++ fr' → Q v H'
def pGFn4 (K : PySem.W.Frag) : Sp := fun vs H Q _ => ∃ S b r pf pc name fr fs cs, vs = [.ref b, .ref pf, .str name, .ref pc] ∧ Bx H b r ∧ H pf = some (.lst (List.map V.str fr)) ∧ (∀ x ∈ fr, nmO x) ∧ 5 ≤ fr.length ∧ b ∈ S ∧ pf ∈ S ∧ Al S H ∧ r ∉ S ∧ b ≠ pf ∧ pc ≠ b ∧ pc ≠ pf ∧ nmO name ∧ H pc = some (.lst cs) ∧ DpAll K (dl S H) cs (List.map tfD fs) ∧ fs.length ≤ 10 ∧ (∀ g ∈ fs, nmO g.n ∧ g.p.length ≤ 4) ∧
  ∀ v tf fr' H', Ks [b, pf] H H' → Bx H' b r → H' pf = some (.lst (fr'.map V.str)) → Dp K (dl S H') v (tfD tf) → tf.n = name → FOk tf → (∀ s ∈ tf.b, cf fs s) → tf.p.length ≤ 2 → tf.b.length ≤ 3 → (∀ q ∈ tf.p ++ lets tf.b, q.2.length ≤ 4) → fr = (tf.p ++ lets tf.b).map Prod.fst ++ fr' → Q v H'
theorem ok__law_statement (T : Tx K mg) : FnOk P w K mg base CX0 4 T.a__law_statement T.e__law_statement p__law_statement (pGSt4 K) := by
  refine T.d__law_statement.F.ok sc__law_statement (fun vs H Q E h => ?_) (fun cdv A outer s H vs Q E hr h => ?_)
  · obtain ⟨S, b, r, pf, pn, pt, pc, fr, xs, e, n, fs, cs, rfl, _⟩ := h
    rfl
  obtain ⟨S, b, r, pf, pn, pt, pc, fr, xs, e, n, fs, cs, rfl, gs, hn, hfr, hc, nbpc, dc, hfs, ofs, q⟩ := h
  have hu := hu_of hr
  have hb : [b] ⊆ S := by simpa using gs.m.1
  refine ⟨_, (pss_cons (ps_set (i := 5) sc__law_statement.nd rfl (.inl rfl) (pe_call (ok__law_draw T) (hr.mono (by omega)) (by rfl) T.d__law_draw.m T.d__law_draw.F.kp T.d__law_draw.b .nil pass0 (pa_cons (pv 0) (pa_cons pe_int pa_nil))))
    (pss_cons (ps_if (PW.pt (pw_and (pt_cmpR op_gt (pe_callB (lenK K) (by rfl) T.b_len PySem.boot_len (pa_cons (pv 4) pa_nil)) pe_int (nomark _)) (pw_and1 (pt_cmpR op_eq (pv 5) pe_int (nomark _))))) (pss_cons (ps_set (i := 6) sc__law_statement.nd rfl (.inl rfl) (pe_ix (ixL K) (pv 4) (pe_op op_mod (pe_callTy k_int (by rfl) T.b_int (by decide +kernel) (pa_cons (pe_call (ok__law_draw T) (hr.mono (by omega)) (by rfl) T.d__law_draw.m T.d__law_draw.F.kp T.d__law_draw.b .nil pass0 (pa_cons (pv 0) (pa_cons pe_int pa_nil))) pa_nil)) (pe_callB (lenK K) (by rfl) T.b_len PySem.boot_len (pa_cons (pv 4) pa_nil))) (fun _ _ => rfl)))
    (pss_one (ps_ret (pe_tup (pa_cons pe_str (pa_cons (pe_ix (ixL K) (pv 6) pe_int (fun _ _ => rfl)) (pa_cons (pe_lc (own := [("param", 11)]) (g := gName 11) rfl sc__law_statement.nd  (plK K (pe_ix (ixL K) (pv 6) pe_int (fun _ _ => rfl))) (blkOk_by (own := [("param", 11)]) (N := n__law_statement) (sc := defScope s__law_statement) (by decide +kernel)) (fun _ _ _ _ _ => (pg_name (i := 11) sc__law_statement.nd rfl (Or.inl rfl))) (fun _ _ _ _ _ => pts_nil) (fun _ _ _ _ _ => (pe_call (ok__law_source T) (hr.mono (by omega)) (by rfl) T.d__law_source.m T.d__law_source.F.kp T.d__law_source.b .nil pass0 (pa_cons (pv 0) (pa_cons (pv 2) (pa_cons (pv 3) (pa_cons (pe_slice (slA K) (pe_ix (ixT K) (pv 11) pe_int (fun _ _ => rfl)) (po_some pe_int) po_none) pa_nil))))))) pa_nil))))))) pss_nil)
    (pss_cons (ps_if (PW.pt (pw_and (pt_cmpR op_gt (pe_callB (lenK K) (by rfl) T.b_len PySem.boot_len (pa_cons (pv 2) pa_nil)) pe_int (nomark _)) (pw_and1 (pt_cmpR op_gt (pv 5) pe_int (nomark _))))) (pss_cons (ps_set (i := 7) sc__law_statement.nd rfl (.inl rfl) (pe_ix (ixL K) (pv 2) (pe_op op_mod (pe_callTy k_int (by rfl) T.b_int (by decide +kernel) (pa_cons (pe_call (ok__law_draw T) (hr.mono (by omega)) (by rfl) T.d__law_draw.m T.d__law_draw.F.kp T.d__law_draw.b .nil pass0 (pa_cons (pv 0) (pa_cons pe_int pa_nil))) pa_nil)) (pe_callB (lenK K) (by rfl) T.b_len PySem.boot_len (pa_cons (pv 2) pa_nil))) (fun _ _ => rfl)))
    (pss_cons (ps_set (i := 8) sc__law_statement.nd rfl (.inl rfl) (pe_op op_mod (pe_callTy k_int (by rfl) T.b_int (by decide +kernel) (pa_cons (pe_call (ok__law_draw T) (hr.mono (by omega)) (by rfl) T.d__law_draw.m T.d__law_draw.F.kp T.d__law_draw.b .nil pass0 (pa_cons (pv 0) (pa_cons pe_int pa_nil))) pa_nil)) (pe_op op_add (pe_callB (lenK K) (by rfl) T.b_len PySem.boot_len (pa_cons (pe_dget hu (pv 3) (pv 7) (fun _ _ => rfl)) pa_nil)) (pe_callTy k_int (by rfl) T.b_int (by decide +kernel) (pa_cons (pe_cmpR op_eq (pe_call (ok__law_draw T) (hr.mono (by omega)) (by rfl) T.d__law_draw.m T.d__law_draw.F.kp T.d__law_draw.b .nil pass0 (pa_cons (pv 0) (pa_cons pe_int pa_nil))) pe_int (nomark _)) pa_nil)))))
    (pss_one (ps_ret (pe_tup (pa_cons pe_str (pa_cons (pe_tup (pa_cons (pv 7) (pa_cons (pe_callB minK (by rfl) T.b_min (by decide +kernel) (pa_cons (pv 8) (pa_cons pe_int pa_nil))) pa_nil))) (pa_cons (pe_call (ok__law_source T) (hr.mono (by omega)) (by rfl) T.d__law_source.m T.d__law_source.F.kp T.d__law_source.b .nil pass0 (pa_cons (pv 0) (pa_cons (pv 2) (pa_cons (pv 3) (pa_cons (pe_slice (slA K) (pe_dget hu (pv 3) (pv 7) (fun _ _ => rfl)) (po_some (pe_op op_add (pv 8) pe_int)) po_none) pa_nil))))) pa_nil)))))))) pss_nil)
    (pss_cons (ps_set (i := 7) sc__law_statement.nd rfl (.inl rfl) (pe_bm PySem.F.plainAttrs_list PySem.F.slot_list_pop PySem.F.type_list_pop mt_popAt (pv 1) (pa_cons pe_int pa_nil)))
    (pss_cons (ps_set (i := 9) sc__law_statement.nd rfl (.inl rfl) (pe_call (ok__law_rights T) (hr.mono (by omega)) (by rfl) T.d__law_rights.m T.d__law_rights.F.kp T.d__law_rights.b .nil pass0 (pa_cons (pv 0) (pa_cons (pe_op op_add pe_int (pe_call (ok__law_draw T) (hr.mono (by omega)) (by rfl) T.d__law_draw.m T.d__law_draw.F.kp T.d__law_draw.b .nil pass0 (pa_cons (pv 0) (pa_cons pe_int pa_nil)))) pa_nil))))
    (pss_cons (ps_set (i := 10) sc__law_statement.nd rfl (.inl rfl) (pe_tup (pa_cons pe_str (pa_cons (pv 7) (pa_cons (pv 9) (pa_cons (pe_call (ok__law_source T) (hr.mono (by omega)) (by rfl) T.d__law_source.m T.d__law_source.F.kp T.d__law_source.b .nil pass0 (pa_cons (pv 0) (pa_cons (pv 2) (pa_cons (pv 3) (pa_cons (pe_slice (slA K) (pv 9) (po_some pe_int) po_none) pa_nil))))) pa_nil))))))
    (pss_cons (ps_expr (pe_bm PySem.F.plainAttrs_list PySem.F.slot_list_append PySem.F.type_list_append mt_append (pv 2) (pa_cons (pv 7) pa_nil)))
    (pss_cons (ps_dput hu (pv 3) (pv 7) (pv 9) rfl)
    (pss_one (ps_ret (pv 10))))))))))), ?_⟩
  walk_at "r"
  refine ap_draw gs.bx (by decide) fun v1 H1 v10 v18 k1 b1 => ?_
  with_reducible refine w_name ?_
  with_reducible refine w_seq ?_
  with_reducible refine w_if ?_
  have gs1 := gs.draw k1 b1
  have hc1 : SqL K H1 pc cs := ks_sl hc k1 (by simpa using nbpc.1)
  have dc1 : DpAll K (dl S H1) cs (List.map tfD fs) := dpa_ex (dl_ks (k1.mono (fun a ha => hb ha))) dc
  have lc : cs.length = fs.length := by rw [dpa_len dc, List.length_map]
  refine and_q (a := decide (0 < cs.length)) (c := decide (v1 = 7)) (fun M h => by
    walk_at "r"
    refine a_lenL hc1 ?_
    walk_at "r"
    rw [lenpos]
    exact h) (fun M h => by walk_at "r"; exact h) ?_
  refine ite2 (fun c => ?_) (fun _ => ?_)
  · have hc0 : 0 < cs.length := of_decide_eq_true (Bool.and_eq_true _ _ ▸ c : _ ∧ _).1
    walk_at "r"
    refine ap_draw gs1.bx (by decide) fun v2 H2 v20 _ k2 b2 => ?_
    walk_at "r"
    have gs2 := gs1.draw k2 b2
    have hc2 : SqL K H2 pc cs := ks_sl hc1 k2 (by simpa using nbpc.1)
    have dc2 : DpAll K (dl S H2) cs (List.map tfD fs) := dpa_ex (dl_ks (k2.mono (fun a ha => hb ha))) dc1
    refine a_lenL hc2 ?_
    walk_at "r"
    refine w_I (show (0 : Int) < (cs.length : Int) by omega) ?_
    obtain ⟨j, ej, hj⟩ := nat_of (v := v2 % (cs.length : Int)) (m := cs.length) (Int.emod_nonneg _ (by omega)) (Int.emod_lt_of_pos _ (by omega))
    rw [ej]
    obtain ⟨vf, hvf⟩ : ∃ vf, cs[j]? = some vf := ⟨_, List.getElem?_eq_getElem (by omega)⟩
    obtain ⟨d, hd, dv⟩ := dpa_at dc2 hvf
    rw [List.getElem?_map] at hd
    cases hg : fs[j]? with
    | none => rw [hg] at hd; cases hd
    | some g =>
    rw [hg] at hd
    cases hd
    have gm := List.mem_of_getElem? hg
    obtain ⟨og, op⟩ := ofs g gm
    obtain ⟨pg, w1, w2, w3, rfl, hpg, g1, g2, g3⟩ := dp_l3 dv
    cases dp_str g1
    obtain ⟨pp, vs2, rfl, hpp, dpp⟩ := dp_lst g2
    have L2' := dl_le S H2
    have lp : vs2.length = g.p.length := by rw [dpa_len dpp, List.length_map]
    refine a_ixL (v := .ref pg) hc2 (atI_nat hvf) ?_
    walk_at "r"
    refine a_ixL (v := .str g.n) (ex_sl hpg L2') (atI_nat (j := 0) rfl) ?_
    walk_at "r"
    refine a_ixL (v := .ref pp) (ex_sl hpg L2') (atI_nat (j := 1) rfl) ?_
    refine c_L (ex_sl hpp L2') ?_
    refine cp_list (xs := vs2) (fun l k h => Ks [b] H2 h ∧ Bx h b r ∧ ∃ acc ss, h l = some (.lst acc) ∧ DpAll K (dl (l :: S) h) acc (List.map sD ss) ∧ (∀ s ∈ ss, sO s) ∧ acc.length = k)
      (fun l n => ⟨Ks.of (Ex.new n), bx_ex b2 (Ex.new n), [], [], upd_same, .nil, (fun s hs => by cases hs), rfl⟩) (fun l k h _ _ z => ex_sl (ex_sl hpp (dl_ks (z.1.mono (fun a ha => hb ha)))) (dl_le _ _)) ?_ ?_
    · rintro l k x h nl hk ⟨k3, b3, acc, ss, f3, D3, so, l3⟩
      obtain ⟨d, hd, du⟩ := dpa_at dpp hk
      rw [List.getElem?_map] at hd
      cases hq : g.p[k]? with
      | none => rw [hq] at hd; cases hd
      | some qq =>
      rw [hq] at hd
      cases hd
      have hk2 := at_lt hk
      have G3 : Ex (dl S H2) (dl S h) := dl_ks (k3.mono (fun a ha => hb ha))
      have gs3 := gs2.draw k3 b3
      -- within the comprehension: the new list is left out, too
      have nlS : l ∉ S := gs2.al.nin nl
      have X3 : Ex (dl S H2) (dl (l :: S) h) := fun a o ha => by
        have h1 := G3 a o ha
        have : a ≠ l := ne_of_none (dl_le _ _ _ _ ha) nl
        by_cases z : a ∈ S
        · rw [dl_in z] at ha; cases ha
        · rw [dl_nin z] at h1
          rw [dl_nin (fun y => (List.mem_cons.mp y).elim this z)]
          exact h1
      have gsl : GS K (l :: S) h b r pf pn pt fr xs e n := {
        bx := b3
        f := gs3.f
        nm := gs3.nm
        t := by
          obtain ⟨kvs, h1, h2, h3⟩ := gs2.t
          exact ⟨kvs, k3 _ _ (by simpa using gs.d1.2.2.symm) h1, h2, fun x => ⟨(h3 x).1, fun T t => by
            obtain ⟨a, g1, g2⟩ := (h3 x).2 T t
            exact ⟨a, g1, ex_st g2 X3⟩⟩⟩
        m := ⟨List.mem_cons_of_mem _ gs.m.1, List.mem_cons_of_mem _ gs.m.2.1, List.mem_cons_of_mem _ gs.m.2.2.1, List.mem_cons_of_mem _ gs.m.2.2.2⟩
        al := gs3.al.cons f3
        rn := nin_cons (bx_nr b2 nl) gs.rn
        d1 := gs.d1
        d2 := gs.d2
        kn := gs.kn
        xl := gs.xl
        fo := gs.fo }
      obtain ⟨p2, a2, rfl, hp2, ha3⟩ := dp_pD (dp_ex X3 du)
      walk_at "r"
      refine ⟨rfl, ?_⟩
      walk_at "r"
      refine a_ixT (v := .ref a2) (ex_st hp2 (dl_le _ _)) (atI_nat (j := 1) rfl) ?_
      walk_at "r"
      refine a_slFrS (n := 1) gsl.al ha3 fun b4 h4 e4 f4 => ?_
      rw [tv_drop] at f4
      walk_at "r"
      have gsl4 := gsl.ex e4
      refine ⟨l :: S, b, r, pf, pn, pt, b4, fr, xs, e, n, qq.2.drop 1, rfl, gsl4, by omega, f4, fun v' s' h5 k5 b5 d5 o5 => ?_⟩
      have nlb : l ≠ b := (bx_nb b2 nl).symm
      have f5 : h5 l = some (.lst acc) := k5 _ _ (by simpa using nlb) (e4 _ _ f3)
      have KK : Ks [b] H2 h5 := (k3.trans (Ks.of e4)).trans k5
      refine ⟨acc, f5, sz_lt (by omega), KK.mut nl, bx_ks (S := [l]) b5 ((Ks.refl _ _).upd (by simp)) (by simpa using nlb.symm) (by simpa using bx_nr b2 nl), acc ++ [v'], ss ++ [s'], upd_same, ?_, ?_, by rw [List.length_append, l3]; rfl⟩
      · rw [dl_upd (List.mem_cons_self ..), List.map_append]
        have x35 : Ex (dl (l :: S) h) (dl (l :: S) h5) := (dl_ex e4).trans (dl_ks (k5.mono (fun a ha => List.mem_cons_of_mem _ (hb ha))))
        exact dpa_snoc (dpa_ex x35 D3) d5
      · intro s hs
        rcases List.mem_append.mp hs with hs | hs
        · exact so s hs
        · rw [List.mem_singleton] at hs
          rw [hs]
          exact o5
    · rintro l h nl ⟨k3, b3, acc, ss, f3, D3, so, l3⟩
      walk_at "r"
      have gs3 := gs2.draw k3 b3
      have nlS : l ∉ S := gs2.al.nin nl
      have D4 : DpAll K (dl S h) acc (List.map sD ss) := dpa_ex (dl_sub (fun a ha => List.mem_cons_of_mem _ ha)) D3
      have l4 : acc.length = ss.length := by rw [dpa_len D3, List.length_map]
      refine new_tup (by simp) fun t h4 n4 e4 f4 => ?_
      have gs4 := gs3.ex e4
      have DL : Dp K (dl S h4) (.ref l) (.list (List.map sD ss)) := Dp.inL (e4 _ _ f3) nlS (dpa_ex (dl_ex e4) D4)
      refine q (.ref t) (.call g.n ss) fr xs e h4 (ks_b4 (((k1.trans k2).trans k3).trans (Ks.of e4))) (gs4.mono (Nat.le_succ _)) (Dp.in f4 (gs3.al.nin n4) (.cons (.str _) (.cons (.str _) (.cons DL .nil)))) ⟨og, by omega, so⟩ (fun q hq => by simp [lets, letP] at hq) ⟨g, gm, rfl, by omega⟩ rfl
  with_reducible refine w_next ?_
  with_reducible refine w_seq ?_
  with_reducible refine w_if ?_
  refine and_q (a := decide (0 < xs.length)) (c := decide (3 < v1)) (fun M h => by
    walk_at "r"
    refine a_lenL (SqL.of gs1.nm) ?_
    walk_at "r"
    rw [List.length_map, lenpos]
    exact h) (fun M h => by walk_at "r"; exact h) ?_
  refine ite2 (fun c => ?_) (fun _ => ?_)
  · have hx0 : 0 < xs.length := of_decide_eq_true (Bool.and_eq_true _ _ ▸ c : _ ∧ _).1
    walk_at "r"
    refine ap_draw gs1.bx (by decide) fun v2 H2 v20 _ k2 b2 => ?_
    walk_at "r"
    have gs2 := gs1.draw k2 b2
    refine a_lenL (SqL.of gs2.nm) ?_
    walk_at "r"
    rw [List.length_map]
    refine w_I (show (0 : Int) < (xs.length : Int) by omega) ?_
    obtain ⟨j, ej, hj⟩ := nat_of (v := v2 % (xs.length : Int)) (m := xs.length) (Int.emod_nonneg _ (by omega)) (Int.emod_lt_of_pos _ (by omega))
    rw [ej]
    obtain ⟨x, hx⟩ : ∃ x, xs[j]? = some x := ⟨_, List.getElem?_eq_getElem (by omega)⟩
    refine a_ixL (v := .str x) (SqL.of gs2.nm) (atI_nat (str_at hx)) ?_
    walk_at "r"
    obtain ⟨xo, U, hU, u1, u4⟩ := gs.kn x (List.mem_of_getElem? hx)
    refine ap_draw b2 (by decide) fun v3 H3 v30 _ k3 b3 => ?_
    walk_at "r"
    have gs3 := gs2.draw k3 b3
    refine (gs3.t.d (by omega)).get hU fun a ha => ?_
    walk_at "r"
    refine a_lenT (ex_st ha (dl_le S H3)) ?_
    walk_at "r"
    rw [tv_len]
    refine ap_draw b3 (by decide) fun v4 H4 v40 _ k4 b4 => ?_
    walk_at "r"
    have gs4 := gs3.draw k4 b4
    have mb : ∀ bb : Bool, 0 ≤ (if bb = true then (1 : Int) else 0) ∧ (if bb = true then (1 : Int) else 0) ≤ 1 := fun bb => by cases bb <;> decide
    have mz := mb (decide (v4 = 0))
    generalize (if decide (v4 = 0) = true then (1 : Int) else 0) = z4 at mz ⊢
    refine w_I (show (0 : Int) < (U.length : Int) + z4 by omega) ?_
    obtain ⟨k, ek, hk⟩ := nat_of (v := v3 % ((U.length : Int) + z4)) (m := (U.length : Int) + z4) (Int.emod_nonneg _ (by omega)) (Int.emod_lt_of_pos _ (by omega))
    rw [ek]
    walk_at "r"
    refine ⟨_, _, rfl, ?_⟩
    rw [if_neg (show ¬ ((5 : Int) < (k : Int)) by omega)]
    walk_at "r"
    refine new_tup (by simp) fun t1 H5 n5 e5 f5 => ?_
    walk_at "r"
    have gs5 := gs4.ex e5
    refine (gs5.t.d (by omega)).get hU fun a2 ha2 => ?_
    walk_at "r"
    have k1' : (k : Int) + 1 = ((k + 1 : Nat) : Int) := by omega
    rw [k1']
    refine a_slFrS gs5.al ha2 fun b6 H6 e6 f6 => ?_
    rw [tv_drop] at f6
    walk_at "r"
    have gs6 := gs5.ex e6
    refine ⟨S, b, r, pf, pn, pt, b6, fr, xs, e, n, U.drop (k + 1), rfl, gs6, by omega, f6, fun v' s' H7 k7 b7 d7 o7 => ?_⟩
    walk_at "r"
    have gs7 := gs6.draw k7 b7
    refine new_tup (by simp) fun t2 H8 n8 e8 f8 => ?_
    have gs8 := gs7.ex e8
    have KK : Ks [b] H H8 := ((((((k1.trans k2).trans k3).trans k4).trans (Ks.of e5)).trans (Ks.of e6)).trans k7).trans (Ks.of e8)
    have x58 : Ex (dl S H5) (dl S H8) := ((dl_ex e6).trans (dl_ks (k7.mono (fun a ha => hb ha)))).trans (dl_ex e8)
    have dpl : Dp K (dl S H5) (.ref t1) (plD x k) := Dp.in f5 (gs4.al.nin n5) (.cons (.str _) (.cons (.int _) .nil))
    exact q (.ref t2) (.put x k s') fr xs e H8 (ks_b4 KK) (gs8.mono (Nat.le_succ _)) (Dp.in f8 (gs7.al.nin n8) (.cons (.str _) (.cons (dp_ex x58 dpl) (.cons (dp_ex (dl_ex e8) d7) .nil)))) ⟨xo, by omega, o7⟩ (fun q hq => by simp [lets, letP] at hq) trivial rfl
  -- a new variable
  cases fr with
  | nil => simp at hfr
  | cons x fr' =>
  walk_at "r"
  refine ⟨a_ty gs1.f, ?_⟩
  walk_at "r"
  refine a_pop0 gs1.f ?_
  have gs2 := gs1.pop
  have kp : Ks (M4 b pf pn pt) H1 (upd H1 pf (.lst (fr'.map V.str))) := (Ks.refl _ _).upd (by simp)
  change gName _ _ _ (upd H1 pf (.lst (fr'.map V.str))) _
  generalize upd H1 pf (.lst (fr'.map V.str)) = H2 at gs2 kp ⊢
  have xo : nmO x := gs.fo x (List.mem_cons_self ..)
  walk_at "r"
  refine ap_draw gs2.bx (by decide) fun v3 H3 v30 v34 k3 b3 => ?_
  walk_at "r"
  have gs3 := gs2.draw k3 b3
  refine ⟨b, r, _, rfl, b3, by omega, by omega, fun pT U H4 np pb pr hl k4 b4 tu => ?_⟩
  walk_at "r"
  have gs4 := gs3.draw k4 b4
  have pS : pT ∉ S := gs3.al.nin np
  have hU4 : SqT K (dl S H4) pT (tv U) := (tu_dl pS tu).st
  have u14 : 1 ≤ U.length ∧ U.length ≤ 4 := by omega
  refine a_slFrS (n := 1) gs4.al hU4 fun b6 H6 e6 f6 => ?_
  rw [tv_drop] at f6
  walk_at "r"
  have gs6 := gs4.ex e6
  refine ⟨S, b, r, pf, pn, pt, b6, fr', xs, e, n, U.drop 1, rfl, gs6, by omega, f6, fun v' s' H7 k7 b7 d7 o7 => ?_⟩
  walk_at "r"
  have gs7 := gs6.draw k7 b7
  refine new_tup (by simp) fun t2 H8 n8 e8 f8 => ?_
  walk_at "r"
  have gs8 := gs7.ex e8
  have x48 : Ex (dl S H4) (dl S H8) := ((dl_ex e6).trans (dl_ks (k7.mono (fun a ha => hb ha)))).trans (dl_ex e8)
  have hU8 := ex_st hU4 x48
  have dst : Dp K (dl S H8) (.ref t2) (stD (.lt x U s')) := Dp.in f8 (gs7.al.nin n8) (.cons (.str _) (.cons (.str _) (.cons (dp_ru hU8) (.cons (dp_ex (dl_ex e8) d7) .nil))))
  refine ⟨a_ty gs8.nm, ?_⟩
  walk_at "r"
  refine a_app gs8.nm (by rw [List.length_map]; have := gs8.xl; omega) ?_
  have km : Ks [pn] H8 (upd H8 pn (.lst (xs.map V.str ++ [.str x]))) := (Ks.refl _ _).upd (by simp)
  have fm : upd H8 pn (.lst (xs.map V.str ++ [.str x])) pn = some (.lst ((xs ++ [x]).map V.str)) := by rw [upd_same, List.map_append]; rfl
  have em : dl S (upd H8 pn (.lst (xs.map V.str ++ [.str x]))) = dl S H8 := dl_upd gs.m.2.2.1
  have tm := gs8.t.ks km (fun a ha => by rw [List.mem_singleton] at ha; rw [ha]; exact gs.m.2.2.1) (by simpa using gs.d2.2.2.symm)
  generalize upd H8 pn (.lst (xs.map V.str ++ [.str x])) = H9 at km fm em tm ⊢
  walk_at "r"
  refine tm.put (x := x) (T := U) gs.m.2.2.2 (by omega) (by rw [em]; exact hU8) fun H10 k10 t10 => ?_
  walk_at "r"
  have k89 : Ks [pn, pt] H8 H10 := (km.mono (by simp)).trans (k10.mono (by simp))
  have f10 := k10 _ _ (by simpa using gs.d2.2.2) fm
  have gs10 := gs8.add k89 (by simpa using ⟨gs.d1.2.1, gs.d1.2.2⟩) (by simpa using ⟨gs.d2.1, gs.d2.2.1⟩) (by simpa using ⟨gs.m.2.2.1, gs.m.2.2.2⟩) (fun a ha => by
    simp only [List.mem_cons, List.not_mem_nil, or_false] at ha
    rcases ha with rfl | rfl
    · rw [f10]
      exact fun z => by cases z
    · obtain ⟨kvs, f, _⟩ := t10
      rw [f]
      exact fun z => by cases z) t10 f10 xo u14
  have KK : Ks (M4 b pf pn pt) H H10 := ((((((ks_b4 k1).trans kp).trans (ks_b4 k3)).trans (ks_b4 k4)).trans (Ks.of e6)).trans (ks_b4 k7)).trans ((Ks.of e8).trans (k89.mono (by simp)))
  have x810 : Ex (dl S H8) (dl S H10) := dl_ks (k89.mono (by simpa using ⟨gs.m.2.2.1, gs.m.2.2.2⟩))
  exact q (.ref t2) (.lt x U s') fr' _ _ H10 KK gs10 (dp_ex x810 dst) ⟨xo, ⟨u14.1, by omega⟩, o7⟩ (fun q hq => by
    rw [show lets [Stm.lt x U s'] = [(x, U)] from rfl] at hq
    rw [List.mem_singleton.mp hq]
    exact u14.2) trivial rfl
end
section
variable {P : Program} {w : World} {K : PySem.W.Frag} {mg : Str → Option Value} {base : Heap}
theorem l4_of {ps : List (Str × List R)} {ss : List Stm} (h1 : ∀ q ∈ ps, q.2.length ≤ 4) (h2 : ∀ s ∈ ss, ∀ q ∈ lets [s], q.2.length ≤ 4) : ∀ q ∈ ps ++ lets ss, q.2.length ≤ 4 := fun q hq => by
  rcases List.mem_append.mp hq with hq | hq
  · exact h1 q hq
  · obtain ⟨s, hs, e⟩ := List.mem_filterMap.mp hq
    exact h2 s hs q (List.mem_filterMap.mpr ⟨s, List.mem_singleton.mpr rfl, e⟩)
theorem lets_le (b : List Stm) : (lets b).length ≤ b.length := List.length_filterMap_le ..
theorem ok__law_function (T : Tx K mg) : FnOk P w K mg base CX0 5 T.a__law_function T.e__law_function p__law_function (pGFn4 K) := by
  refine T.d__law_function.F.ok sc__law_function (fun vs H Q E h => ?_) (fun cdv A outer s H vs Q E hr h => ?_)
  · obtain ⟨S, b, r, pf, pc, name, fr, fs, cs, rfl, _⟩ := h
    rfl
  obtain ⟨S, b, r, pf, pc, name, fr, fs, cs, rfl, bx, hf, fo, hfr, bS, fS, al, rS, nbf, ncb, ncf, no, hc, dc, hfs, ofs, q⟩ := h
  have hu := hu_of hr
  refine ⟨_, (pss_cons (ps_set (i := 4) sc__law_function.nd rfl (.inr rfl) (pe_lst pa_nil))
    (pss_cons (ps_set (i := 5) sc__law_function.nd rfl (.inr rfl) pe_dnewK)
    (pss_cons (ps_set (i := 6) sc__law_function.nd rfl (.inl rfl) (pe_lst pa_nil))
    (pss_cons (ps_for PassesOwn.never rfl (pi_range1 (by rfl) T.b_range (pa_cons (pe_call (ok__law_draw T) (hr.mono (by omega)) (by rfl) T.d__law_draw.m T.d__law_draw.F.kp T.d__law_draw.b .nil pass0 (pa_cons (pv 0) (pa_cons pe_int pa_nil))) pa_nil)) (pg_name (i := 7) sc__law_function.nd rfl (.inl rfl)) (pss_cons (ps_set (i := 8) sc__law_function.nd rfl (.inl rfl) (pe_bm PySem.F.plainAttrs_list PySem.F.slot_list_pop PySem.F.type_list_pop mt_popAt (pv 1) (pa_cons pe_int pa_nil)))
    (pss_cons (ps_dput hu (pv 5) (pv 8) (pe_call (ok__law_rights T) (hr.mono (by omega)) (by rfl) T.d__law_rights.m T.d__law_rights.F.kp T.d__law_rights.b .nil pass0 (pa_cons (pv 0) (pa_cons (pe_op op_add pe_int (pe_call (ok__law_draw T) (hr.mono (by omega)) (by rfl) T.d__law_draw.m T.d__law_draw.F.kp T.d__law_draw.b .nil pass0 (pa_cons (pv 0) (pa_cons pe_int pa_nil)))) pa_nil))) rfl)
    (pss_cons (ps_expr (pe_bm PySem.F.plainAttrs_list PySem.F.slot_list_append PySem.F.type_list_append mt_append (pv 6) (pa_cons (pe_tup (pa_cons (pv 8) (pa_cons (pe_dget hu (pv 5) (pv 8) (fun _ _ => rfl)) pa_nil))) pa_nil)))
    (pss_one (ps_expr (pe_bm PySem.F.plainAttrs_list PySem.F.slot_list_append PySem.F.type_list_append mt_append (pv 4) (pa_cons (pv 8) pa_nil))))))))
    (pss_cons (ps_setLc (i := 9) (own := [("j", 7)]) (g := gName 7) rfl sc__law_function.nd rfl rfl (sw_true rfl rfl rfl (by decide +kernel)) (pi_range1 (by rfl) T.b_range (pa_cons (pe_call (ok__law_draw T) (hr.mono (by omega)) (by rfl) T.d__law_draw.m T.d__law_draw.F.kp T.d__law_draw.b .nil pass0 (pa_cons (pv 0) (pa_cons pe_int pa_nil))) pa_nil)) (blkOk_by (own := [("j", 7)]) (N := n__law_function) (sc := defScope s__law_function) (by decide +kernel)) (fun _ _ _ _ _ => (pg_name (i := 7) sc__law_function.nd rfl (Or.inl rfl))) (fun _ _ _ _ _ => pts_nil) (fun _ _ _ _ _ => (pe_call (ok__law_statement T) (hr.mono (by omega)) (by rfl) T.d__law_statement.m T.d__law_statement.F.kp T.d__law_statement.b .nil pass0 (pa_cons (pv 0) (pa_cons (pv 1) (pa_cons (pv 4) (pa_cons (pv 5) (pa_cons (pv 3) pa_nil))))))))
    (pss_one (ps_ret (pe_lst (pa_cons (pv 2) (pa_cons (pv 6) (pa_cons (pv 9) pa_nil))))))))))), ?_⟩
  walk_at "r"
  refine new_lst (xs := []) (by simp) fun pn H1 n1 e1 f1 => ?_
  walk_at "r"
  refine new_dK fun pt H2 n2 e2 f2 => ?_
  walk_at "r"
  refine new_lst (xs := []) (by simp) fun pp H3 n3 e3 f3 => ?_
  walk_at "r"
  have npt : pn ≠ pt := ne_old f1 n2
  have npp : pn ≠ pp := ne_old (e2 _ _ f1) n3
  have tpp : pt ≠ pp := ne_old f2 n3
  have bsm : ∀ {H : Hp} {p : Addr}, Bx H b r → H p = none → b ≠ p := fun h n => bx_nb h n
  have bx1 := bx_ex bx e1
  have bx2 := bx_ex bx1 e2
  have al2 : Al (pt :: pn :: S) H2 := (al.add e1 f1).add e2 f2
  have G0 : GS K (pt :: pn :: S) H2 b r pf pn pt fr [] e0 0 := {
    bx := bx2
    f := e2 _ _ (e1 _ _ hf)
    nm := e2 _ _ f1
    t := TyN.new f2
    m := ⟨by simp [bS], by simp [fS], by simp, by simp⟩
    al := al2
    rn := nin_cons (bx_nr bx1 n2) (nin_cons (bx_nr bx n1) rS)
    d1 := ⟨nbf, bx_nb bx n1, bx_nb bx1 n2⟩
    d2 := ⟨ne_old hf n1, ne_old (e1 _ _ hf) n2, npt⟩
    kn := fun x hx => by cases hx
    xl := Nat.le_refl _
    fo := fo }
  have G3 := G0.grow n3 e3 f3
  have ppb : pp ≠ b := (bx_nb bx2 n3).symm
  have ppf : pp ≠ pf := (ne_old G0.f n3).symm
  have m4p : pp ∉ M4 b pf pn pt := by simpa using ⟨ppb, ppf, npp.symm, tpp.symm⟩
  have m4c : pc ∉ M4 b pf pn pt := by simpa using ⟨ncb, ncf, ne_old hc n1, ne_old (e1 _ _ hc) n2⟩
  have E3 : Ex H H3 := (e1.trans e2).trans e3
  have XS : Ex (dl S H) (dl (pp :: pt :: pn :: S) H3) := ((dl_new n1 e1).trans (dl_new n2 e2)).trans (dl_new n3 e3)
  have k4 : ∀ {h h' : Hp}, Ks [b, pf] H h → Ks (M4 b pf pn pt) h h' → Ks [b, pf] H h' := fun {h h'} k1 k2 a o na ha => by
    have h1 := k1 a o na ha
    refine k2 a o ?_ h1
    have a1 := ne_old ha n1
    have a2 := ne_old (e1 _ _ ha) n2
    simp only [List.mem_cons, List.not_mem_nil, or_false, not_or] at na ⊢
    exact ⟨na.1, na.2, a1, a2⟩
  have kq : ∀ {h h' : Hp} {p : Addr}, H p = none → Ks [b, pf] H h → Ks [p] h h' → Ks [b, pf] H h' := fun {h h' p} np k1 k2 a o na ha => k2 a o (by rw [List.mem_singleton]; exact ne_old ha np) (k1 a o na ha)
  have npH : H pp = none := ex_none (e1.trans e2) n3
  have ncpp : pc ≠ pp := ne_old ((e1.trans e2) _ _ hc) n3
  refine ap_draw G3.bx (by decide) fun v1 H4 v10 v13 k14 b4 => ?_
  walk_at "r"
  have G4 := G3.draw k14 b4
  have S2m : ∀ a ∈ S, a ∈ pp :: pt :: pn :: S := fun a ha => by simp [ha]
  refine r_R1 (by omega) ?_
  refine lp_range (fun k σ h => (∃ x7 x8 x9, σ = [some (.ref b), some (.ref pf), some (.str name), some (.ref pc), some (.ref pn), some (.ref pt), some (.ref pp), x7, x8, x9]) ∧ Ks [b, pf] H h ∧ Ex (dl S H) (dl (pp :: pt :: pn :: S) h) ∧ h pc = some (.lst cs) ∧
      ∃ frk xs e acc ps, GS K (pp :: pt :: pn :: S) h b r pf pn pt frk xs e k ∧ h pp = some (.lst acc) ∧ DpAll K (dl (pp :: pt :: pn :: S) h) acc (List.map pD ps) ∧ ps.length = k ∧ (∀ q ∈ ps, (nmO q.1 ∧ tyO q.2) ∧ q.2.length ≤ 4) ∧ fr = ps.map Prod.fst ++ frk)
    ⟨⟨_, _, _, rfl⟩, (Ks.of E3).trans (k14.mono (by simp)), XS.trans (dl_ks (k14.mono (by simp [bS]))), k14 _ _ (by simpa using ncb) (E3 _ _ hc), fr, [], e0, [], [], G4, k14 _ _ (by simpa using ppb) f3, .nil, rfl, (fun q hq => by cases hq), rfl⟩ ?_ ?_
  · rintro k σ h hk ⟨⟨x7, x8, x9, rfl⟩, KH, XH, hch, frk, xs, e, acc, ps, gs, fp, Dp1, lps, ops, efr⟩
    have hk2 : k < 2 := by omega
    have lfr : frk.length = fr.length - k := by
      have := congrArg List.length efr
      rw [List.length_append, List.length_map, lps] at this
      omega
    cases frk with
    | nil => simp at lfr; omega
    | cons x fr' =>
    walk_at "r"
    refine ⟨a_ty gs.f, ?_⟩
    walk_at "r"
    refine a_pop0 gs.f ?_
    have gs2 := gs.pop
    have kp : Ks (M4 b pf pn pt) h (upd h pf (.lst (fr'.map V.str))) := (Ks.refl _ _).upd (by simp)
    change gName _ _ _ (upd h pf (.lst (fr'.map V.str))) _
    generalize upd h pf (.lst (fr'.map V.str)) = h2 at gs2 kp ⊢
    have xo : nmO x := gs.fo x (List.mem_cons_self ..)
    walk_at "r"
    refine ap_draw gs2.bx (by decide) fun v3 h3 v30 v34 k3 b3 => ?_
    walk_at "r"
    have gs3 := gs2.draw k3 b3
    refine ⟨b, r, _, rfl, b3, by omega, by omega, fun pT U h4 np pb pr hl kr b4 tu => ?_⟩
    walk_at "r"
    have gs4 := gs3.draw kr b4
    have pS : pT ∉ pp :: pt :: pn :: S := gs3.al.nin np
    have hU4 : SqT K (dl (pp :: pt :: pn :: S) h4) pT (tv U) := (tu_dl pS tu).st
    have u14 : 1 ≤ U.length ∧ U.length ≤ 4 := by omega
    have km4 : Ks (M4 b pf pn pt) h h4 := (kp.trans (ks_b4 k3)).trans (ks_b4 kr)
    have fp4 : h4 pp = some (.lst acc) := km4 _ _ m4p fp
    have x4 : Ex (dl (pp :: pt :: pn :: S) h) (dl (pp :: pt :: pn :: S) h4) := dl_ks (km4.mono gs.m4)
    refine gs4.t.put (x := x) (T := U) gs.m.2.2.2 (by omega) hU4 fun h5 k5 t5 => ?_
    have x5 : Ex (dl (pp :: pt :: pn :: S) h4) (dl (pp :: pt :: pn :: S) h5) := dl_ks (k5.mono (by simp))
    have fp5 : h5 pp = some (.lst acc) := k5 _ _ (by simpa using tpp.symm) fp4
    walk_at "r"
    refine ⟨a_ty fp5, ?_⟩
    walk_at "r"
    refine (t5.d (by omega)).get (x := x) (T := U) (by unfold Env.put; rw [if_pos rfl]) fun aT haT => ?_
    walk_at "r"
    refine new_tup (by simp) fun t1 h6 n6 e6 f6 => ?_
    walk_at "r"
    have al5 : Al (pp :: pt :: pn :: S) h5 := gs4.al.ks k5 (fun a ha => by
      rw [List.mem_singleton] at ha
      obtain ⟨kvs, f, _⟩ := t5
      rw [ha, f]
      exact fun z => by cases z)
    have la : acc.length = ps.length := by rw [dpa_len Dp1, List.length_map]
    refine a_app (e6 _ _ fp5) (by omega) ?_
    have k7 : Ks [pp] h6 (upd h6 pp (.lst (acc ++ [.ref t1]))) := (Ks.refl _ _).upd (by simp)
    have f7 : upd h6 pp (.lst (acc ++ [.ref t1])) pp = some (.lst (acc ++ [.ref t1])) := upd_same
    have d7 : dl (pp :: pt :: pn :: S) (upd h6 pp (.lst (acc ++ [.ref t1]))) = dl (pp :: pt :: pn :: S) h6 := dl_upd (List.mem_cons_self ..)
    generalize upd h6 pp (.lst (acc ++ [.ref t1])) = h7 at k7 f7 d7 ⊢
    have nm7 : h7 pn = some (.lst (xs.map V.str)) := k7 _ _ (by simpa using npp) (e6 _ _ (k5 _ _ (by simpa using npt) gs4.nm))
    have t7 : TyN K (pp :: pt :: pn :: S) h7 pt (e.put x U) (k + 1) := (t5.ex' e6).ks k7 (by simp) (by simpa using tpp)
    walk_at "r"
    refine ⟨a_ty nm7, ?_⟩
    walk_at "r"
    refine a_app nm7 (by rw [List.length_map]; have := gs.xl; omega) ?_
    have k8 : Ks [pn] h7 (upd h7 pn (.lst (xs.map V.str ++ [.str x]))) := (Ks.refl _ _).upd (by simp)
    have f8 : upd h7 pn (.lst (xs.map V.str ++ [.str x])) pn = some (.lst ((xs ++ [x]).map V.str)) := by rw [upd_same, List.map_append]; rfl
    have d8 : dl (pp :: pt :: pn :: S) (upd h7 pn (.lst (xs.map V.str ++ [.str x]))) = dl (pp :: pt :: pn :: S) h7 := dl_upd (by simp)
    generalize upd h7 pn (.lst (xs.map V.str ++ [.str x])) = h8 at k8 f8 d8 ⊢
    have t8 := t7.ks k8 (by simp) (by simpa using npt.symm)
    have fp8 : h8 pp = some (.lst (acc ++ [.ref t1])) := k8 _ _ (by simpa using npp.symm) f7
    have k48 : Ks [pt, pp, pn] h4 h8 := (((k5.mono (by simp)).trans (Ks.of e6)).trans (k7.mono (by simp))).trans (k8.mono (by simp))
    have gs8 := gs4.add k48 (by simpa using ⟨gs.d1.2.2, ppb.symm, gs.d1.2.1⟩) (by simpa using ⟨gs.d2.2.1, ppf.symm, gs.d2.1⟩) (by simp) (fun a ha => by
      simp only [List.mem_cons, List.not_mem_nil, or_false] at ha
      rcases ha with rfl | rfl | rfl
      · obtain ⟨kvs, f, _⟩ := t8
        rw [f]
        exact fun z => by cases z
      · rw [fp8]
        exact fun z => by cases z
      · rw [f8]
        exact fun z => by cases z) t8 f8 xo u14
    have x8 : Ex (dl (pp :: pt :: pn :: S) h5) (dl (pp :: pt :: pn :: S) h8) := by
      rw [d8, d7]
      exact dl_ex e6
    have K8 : Ks [b, pf] H h8 := kq n1 (kq npH (k4 (k4 KH km4) ((k5.mono (by simp)).trans (Ks.of e6))) k7) k8
    refine ⟨⟨_, _, _, rfl⟩, K8, ((XH.trans x4).trans x5).trans x8, ?_, fr', _, _, _, ps ++ [(x, U)], gs8, fp8, ?_, by rw [List.length_append, lps]; rfl, ?_, ?_⟩
    · have c4 := km4 _ _ m4c hch
      have c5 := k5 _ _ (by simpa using (ne_old (e1 _ _ hc) n2)) c4
      exact k8 _ _ (by simpa using (ne_old hc n1)) (k7 _ _ (by simpa using ncpp) (e6 _ _ c5))
    · rw [List.map_append]
      refine dpa_snoc (dpa_ex ((x4.trans x5).trans x8) Dp1) ?_
      have g6 : Dp K (dl (pp :: pt :: pn :: S) h6) (.ref t1) (pD (x, U)) := Dp.in f6 (al5.nin n6) (.cons (.str _) (.cons (dp_ru (ex_st haT (dl_ex e6))) .nil))
      rw [d8, d7]
      exact g6
    · intro qq hq
      rcases List.mem_append.mp hq with hq | hq
      · exact ops qq hq
      · rw [List.mem_singleton] at hq
        rw [hq]
        exact ⟨⟨xo, u14.1, by show U.length ≤ 6; omega⟩, u14.2⟩
    · rw [efr, List.map_append, List.append_assoc]
      rfl
  · rintro σ h ⟨⟨x7, x8, x9, rfl⟩, KH, XH, hch, frk, xs, e, acc, ps, gs, fp, Dp1, lps, ops, efr⟩
    have lfr : frk.length = fr.length - ps.length := by
      have := congrArg List.length efr
      rw [List.length_append, List.length_map] at this
      omega
    have lp2 : ps.length ≤ 2 := by omega
    have la : acc.length = ps.length := by rw [dpa_len Dp1, List.length_map]
    walk_at "r"
    refine ap_draw gs.bx (by decide) fun v5 h2 v50 v54 k2 b2 => ?_
    walk_at "r"
    have gs2 := gs.draw k2 b2
    refine c_R1 (by omega) ?_
    have KH2 : Ks [b, pf] H h2 := KH.trans (k2.mono (by simp))
    have x2 : Ex (dl (pp :: pt :: pn :: S) h) (dl (pp :: pt :: pn :: S) h2) := dl_ks (k2.mono (by simp [bS]))
    have fp2 : h2 pp = some (.lst acc) := k2 _ _ (by simpa using ppb) fp
    have hc2 : h2 pc = some (.lst cs) := k2 _ _ (by simpa using ncb) hch
    refine cp_range (fun D k h' => D ∉ M4 b pf pn pt ∧ Ks [b, pf] H h' ∧ Ex (dl (pp :: pt :: pn :: S) h2) (dl (D :: pp :: pt :: pn :: S) h') ∧ h' pp = some (.lst acc) ∧ h' pc = some (.lst cs) ∧
        ∃ fr2 xs2 e2 acc2 ss, GS K (D :: pp :: pt :: pn :: S) h' b r pf pn pt fr2 xs2 e2 (ps.length + k) ∧ h' D = some (.lst acc2) ∧ DpAll K (dl (D :: pp :: pt :: pn :: S) h') acc2 (List.map stD ss) ∧ ss.length = k ∧ (∀ s ∈ ss, (stO s ∧ ∀ q ∈ lets [s], q.2.length ≤ 4) ∧ cf fs s) ∧ frk = (lets ss).map Prod.fst ++ fr2)
      (fun D nD => ⟨?_, KH2.mut (ks_none KH2 nD (by simpa using ⟨(bx_nb b2 nD).symm, (ne_old gs2.f nD).symm⟩)), dl_new nD (Ex.new nD), (Ex.new nD) _ _ fp2, (Ex.new nD) _ _ hc2, frk, xs, e, [], [], ?_, upd_same, .nil, rfl, (fun s hs => by cases hs), rfl⟩) ?_ ?_
    · obtain ⟨kvs, f, _⟩ := gs2.t
      simpa using ⟨(bx_nb b2 nD).symm, (ne_old gs2.f nD).symm, (ne_old gs2.nm nD).symm, (ne_old f nD).symm⟩
    · have z : ((0 : Int) + v1).toNat = ps.length ∨ v1.toNat = ps.length := .inr lps.symm
      have gg := gs2.grow nD (Ex.new nD (o := .lst [])) upd_same
      rw [← lps] at gg
      exact gg
    · rintro D k h' nD hk ⟨dm, KH', X', fp', hc', fr2, xs2, e2', acc2, ss, gs', fD, D2, lss, oss, ef2⟩
      have hk3 : k < 3 := by omega
      have lfr2 : 1 ≤ fr2.length := by
        have := congrArg List.length ef2
        rw [List.length_append, List.length_map] at this
        have := lets_le ss
        omega
      have la2 : acc2.length = ss.length := by rw [dpa_len D2, List.length_map]
      have dc' : DpAll K (dl (D :: pp :: pt :: pn :: S) h') cs (List.map tfD fs) := dpa_ex ((XH.trans x2).trans X') dc
      walk_at "r"
      refine ⟨rfl, ?_⟩
      walk_at "r"
      refine ⟨D :: pp :: pt :: pn :: S, b, r, pf, pn, pt, pc, fr2, xs2, e2', ps.length + k, fs, cs, rfl, gs', by omega, lfr2, SqL.of hc', by simpa using m4c, dc', hfs, ofs, fun v st fr3 xs3 e3' h3 k3 gs3 d3 o3 l3 c3 ef3 => ?_⟩
      have fD3 := k3 _ _ dm fD
      have x3 : Ex (dl (D :: pp :: pt :: pn :: S) h') (dl (D :: pp :: pt :: pn :: S) h3) := dl_ks (k3.mono gs'.m4)
      have dD : dl (D :: pp :: pt :: pn :: S) (upd h3 D (.lst (acc2 ++ [v]))) = dl (D :: pp :: pt :: pn :: S) h3 := dl_upd (List.mem_cons_self ..)
      have kD : Ks [D] h3 (upd h3 D (.lst (acc2 ++ [v]))) := (Ks.refl _ _).upd (by simp)
      have nDH : H D = none := ks_none KH2 nD (by simpa using ⟨(bx_nb b2 nD).symm, (ne_old gs2.f nD).symm⟩)
      have Dpp : pp ≠ D := ne_old fp2 nD
      have Dpc : pc ≠ D := ne_old hc2 nD
      refine ⟨acc2, fD3, sz_lt (by omega), dm, kq nDH (k4 KH' k3) kD, by rw [dD]; exact X'.trans x3, kD _ _ (by simpa using Dpp) (k3 _ _ m4p fp'), kD _ _ (by simpa using Dpc) (k3 _ _ m4c hc'), fr3, xs3, e3', _, ss ++ [st], ?_, upd_same, ?_, by rw [List.length_append, lss]; rfl, ?_, ?_⟩
      · have dm' : b ≠ D ∧ pf ≠ D ∧ pn ≠ D ∧ pt ≠ D := by
          simp only [List.mem_cons, List.not_mem_nil, or_false, not_or] at dm
          exact ⟨Ne.symm dm.1, Ne.symm dm.2.1, Ne.symm dm.2.2.1, Ne.symm dm.2.2.2⟩
        exact {
          bx := bx_ks gs3.bx kD (by simpa using dm'.1) (by simpa using bx_nr b2 nD)
          f := kD _ _ (by simpa using dm'.2.1) gs3.f
          nm := kD _ _ (by simpa using dm'.2.2.1) gs3.nm
          t := gs3.t.ks kD (by simp) (by simpa using dm'.2.2.2)
          m := gs3.m
          al := gs3.al.upd
          rn := gs3.rn
          d1 := gs3.d1
          d2 := gs3.d2
          kn := gs3.kn
          xl := gs3.xl
          fo := gs3.fo }
      · rw [dD, List.map_append]
        exact dpa_snoc (dpa_ex x3 D2) d3
      · intro s hs
        rcases List.mem_append.mp hs with hs | hs
        · exact oss s hs
        · rw [List.mem_singleton] at hs
          rw [hs]
          exact ⟨⟨o3, l3⟩, c3⟩
      · rw [ef2, ef3, lets_app, List.map_append, List.append_assoc]
    · rintro D h' nD ⟨dm, KH', X', fp', hc', fr2, xs2, e2', acc2, ss, gs', fD, D2, lss, oss, ef2⟩
      walk_at "r"
      refine new_lst (by simp) fun t h3 n3' e3' f3' => ?_
      have nDS : D ∉ S := fun z => gs2.al.nin nD (S2m D z)
      have nppS : pp ∉ S := fun z => al pp z npH
      have ntS : t ∉ S := fun z => gs'.al.nin n3' (List.mem_cons_of_mem _ (S2m t z))
      have sub : Ex (dl (D :: pp :: pt :: pn :: S) h') (dl S h') := dl_sub (fun a ha => List.mem_cons_of_mem _ (S2m a ha))
      have P2 : DpAll K (dl S h3) acc (List.map pD ps) := dpa_ex (((x2.trans X').trans sub).trans (dl_ex e3')) Dp1
      have B2 : DpAll K (dl S h3) acc2 (List.map stD ss) := dpa_ex (sub.trans (dl_ex e3')) D2
      have dt : Dp K (dl S h3) (.ref t) (tfD ⟨name, ps, ss⟩) := Dp.inL f3' ntS (.cons (.str _) (.cons (Dp.inL (e3' _ _ fp') nppS P2) (.cons (Dp.inL (e3' _ _ fD) nDS B2) .nil)))
      refine q (.ref t) ⟨name, ps, ss⟩ fr2 h3 (KH'.trans (Ks.of e3')) (bx_ex gs'.bx e3') (e3' _ _ gs'.f) dt rfl ⟨no, by show ps.length ≤ 4; omega, fun q hq => (ops q hq).1, by show ss.length ≤ 12; omega, fun s hs => (oss s hs).1.1⟩ (fun s hs => (oss s hs).2) (by show ps.length ≤ 2; omega) (by show ss.length ≤ 3; omega) (l4_of (fun q hq => (ops q hq).2) fun s hs => (oss s hs).1.2) ?_
      rw [efr, ef2, List.map_append, List.append_assoc]
end
section
variable {P : Program} {w : World} {K : PySem.W.Frag} {mg : Str → Option Value} {base : Heap}
structure GSz (most : Int) (fs : List TF) (ss : List Stm) : Prop where
  sl : (ss.length : Int) ≤ most
  fl : fs.length ≤ 2
  fn : ∀ f ∈ fs, f.n = "fa" ∨ f.n = "fb"
  fp : ∀ f ∈ fs, f.p.length ≤ 2 ∧ f.b.length ≤ 3
  dn : ∀ x ∈ (decl fs ss).map Prod.fst, x ∈ NM
  l4 : ∀ q ∈ decl fs ss, q.2.length ≤ 4
def pGPrM (K : PySem.W.Frag) : Sp := fun vs H Q _ => ∃ b r most, vs = [.ref b, .int most] ∧ Bx H b r ∧ 0 ≤ most ∧ most ≤ 20 ∧
  ∀ p fs ss H', Ks [b] H H' → Bx H' b r → Dp K (dl [b] H') (.ref p) (.list [.list (List.map tfD fs), .list (List.map stD ss)]) → POk fs ss → GSz most fs ss → Q (.ref p) H'
theorem ok__law_program (T : Tx K mg) : FnOk P w K mg base CX0 6 T.a__law_program T.e__law_program p__law_program (pGPrM K) := by
  refine T.d__law_program.F.ok sc__law_program (fun vs H Q E h => ?_) (fun cdv A outer s H vs Q E hr h => ?_)
  · obtain ⟨b, r, most, rfl, _⟩ := h
    rfl
  obtain ⟨b, r, most, rfl, bx, m0, m20, q⟩ := h
  have hu := hu_of hr
  refine ⟨_, (pss_cons (ps_set (i := 2) sc__law_program.nd rfl (.inr rfl) (pe_call0 (ok__law_names T) (hr.mono (by omega)) (by rfl) T.d__law_names.m T.d__law_names.F.kp T.d__law_names.b .nil pass0))
    (pss_cons (ps_set (i := 3) sc__law_program.nd rfl (.inr rfl) (pe_lst pa_nil))
    (pss_cons (ps_for PassesOwn.never rfl (pi_range1 (by rfl) T.b_range (pa_cons (pe_call (ok__law_draw T) (hr.mono (by omega)) (by rfl) T.d__law_draw.m T.d__law_draw.F.kp T.d__law_draw.b .nil pass0 (pa_cons (pv 0) (pa_cons pe_int pa_nil))) pa_nil)) (pg_name (i := 4) sc__law_program.nd rfl (.inl rfl)) (pss_one (ps_expr (pe_bm PySem.F.plainAttrs_list PySem.F.slot_list_append PySem.F.type_list_append mt_append (pv 3) (pa_cons (pe_call (ok__law_function T) (hr.mono (by omega)) (by rfl) T.d__law_function.m T.d__law_function.F.kp T.d__law_function.b .nil pass0 (pa_cons (pv 0) (pa_cons (pv 2) (pa_cons (pe_ix (ixL K) (pe_lst (pa_cons pe_str (pa_cons pe_str pa_nil))) (pv 4) (fun _ _ => rfl)) (pa_cons (pv 3) pa_nil))))) pa_nil)))))
    (pss_cons (ps_set (i := 5) sc__law_program.nd rfl (.inr rfl) (pe_lst pa_nil))
    (pss_cons (ps_set (i := 6) sc__law_program.nd rfl (.inr rfl) pe_dnewK)
    (pss_one (ps_ret (pe_lst (pa_cons (pv 3) (pa_cons (pe_lc (own := [("k", 4)]) (g := gName 4) rfl sc__law_program.nd  (pi_range1 (by rfl) T.b_range (pa_cons (pe_call (ok__law_draw T) (hr.mono (by omega)) (by rfl) T.d__law_draw.m T.d__law_draw.F.kp T.d__law_draw.b .nil pass0 (pa_cons (pv 0) (pa_cons (pe_op op_add (pv 1) pe_int) pa_nil))) pa_nil)) (blkOk_by (own := [("k", 4)]) (N := n__law_program) (sc := defScope s__law_program) (by decide +kernel)) (fun _ _ _ _ _ => (pg_name (i := 4) sc__law_program.nd rfl (Or.inl rfl))) (fun _ _ _ _ _ => pts_nil) (fun _ _ _ _ _ => (pe_call (ok__law_statement T) (hr.mono (by omega)) (by rfl) T.d__law_statement.m T.d__law_statement.F.kp T.d__law_statement.b .nil pass0 (pa_cons (pv 0) (pa_cons (pv 2) (pa_cons (pv 5) (pa_cons (pv 6) (pa_cons (pv 3) pa_nil)))))))) pa_nil)))))))))), ?_⟩
  walk_at "r"
  refine ⟨rfl, fun pf H1 n1 e1 f1 => ?_⟩
  walk_at "r"
  refine new_lst (xs := []) (by simp) fun pc H2 n2 e2 f2 => ?_
  walk_at "r"
  have bx1 := bx_ex bx e1
  have bx2 := bx_ex bx1 e2
  have cf' : pc ≠ pf := (ne_old f1 n2).symm
  have cb : pc ≠ b := (bx_nb bx1 n2).symm
  have fb : pf ≠ b := (bx_nb bx n1).symm
  have rS : r ∉ [pc, pf, b] := nin_cons (bx_nr bx1 n2) (nin_cons (bx_nr bx n1) (nin_cons (bx_rb bx) nin_nil))
  have nm40 : NM.length = 40 := by decide +kernel
  have hal : ∀ {h : Hp} {cs : List V} {fr : List Str}, Bx h b r → h pf = some (.lst (fr.map V.str)) → h pc = some (.lst cs) → Al [pc, pf, b] h := fun {h cs fr} b1 g1 g2 a ha => by
    simp only [List.mem_cons, List.not_mem_nil, or_false] at ha
    rcases ha with rfl | rfl | rfl
    · rw [g2]
      exact fun z => by cases z
    · rw [g1]
      exact fun z => by cases z
    · exact (bx_some b1).1
  have nf : ∀ {a : Addr} {o : HO}, H a = some o → a ≠ pf ∧ a ≠ pc := fun ha => ⟨ne_old ha n1, ne_old (e1 _ _ ha) n2⟩
  refine ap_draw bx2 (by decide) fun v1 H3 v10 v13 k3 b3 => ?_
  walk_at "r"
  refine r_R1 (by omega) ?_
  refine lp_range (fun k σ h => (∃ x4 x5 x6, σ = [some (.ref b), some (.int most), some (.ref pf), some (.ref pc), x4, x5, x6]) ∧ Ks [b] H h ∧ Bx h b r ∧
      ∃ fr cs fs, h pf = some (.lst (List.map V.str fr)) ∧ h pc = some (.lst cs) ∧ DpAll K (dl [pc, pf, b] h) cs (List.map tfD fs) ∧ fs.length = k ∧ fs.map TF.n = [("fa" : Str), "fb"].take k ∧ (∀ f ∈ fs, FOk f ∧ f.p.length ≤ 2 ∧ f.b.length ≤ 3 ∧ ∀ q ∈ f.p ++ lets f.b, q.2.length ≤ 4) ∧ Fit [] fs [] ∧ NM = (declF fs).map Prod.fst ++ fr ∧ fr.length + 5 * k ≥ 40)
    ⟨⟨_, _, _, rfl⟩, (Ks.of (e1.trans e2)).trans k3, b3, NM, [], [], k3 _ _ (by simpa using fb) (e2 _ _ f1), k3 _ _ (by simpa using cb) f2, .nil, rfl, rfl, (fun f hf => by cases hf), (fun s hs => by cases hs), rfl, by omega⟩ ?_ ?_
  · rintro k σ h hk ⟨⟨x4, x5, x6, rfl⟩, KH, bh, fr, cs, fs, hf, hc, dc, lfs, nfs, ofs, fit, enm, lfr⟩
    have hk2 : k < 2 := by omega
    have k0 : (0 : Int) + (k : Int) = ((k : Nat) : Int) := Int.zero_add _
    rw [k0]
    have lcs : cs.length = fs.length := by rw [dpa_len dc, List.length_map]
    walk_at "r"
    refine ⟨a_ty hc, ?_⟩
    walk_at "r"
    refine new_lst (by simp) fun lw h2 n2' e2' f2' => ?_
    walk_at "r"
    obtain ⟨nm, hnm, hn1⟩ : ∃ nm : Str, [V.str "fa", V.str "fb"][k]? = some (.str nm) ∧ [("fa" : Str), "fb"][k]? = some nm := by
      have : k = 0 ∨ k = 1 := by omega
      rcases this with rfl | rfl
      · exact ⟨"fa", rfl, rfl⟩
      · exact ⟨"fb", rfl, rfl⟩
    have onm : nmO nm := by
      have : k = 0 ∨ k = 1 := by omega
      rcases this with rfl | rfl
      · cases hn1
        exact o_fa
      · cases hn1
        exact o_fb
    refine a_ixL (v := .str nm) (SqL.of f2') (atI_nat hnm) ?_
    walk_at "r"
    have b2' := bx_ex bh e2'
    refine ⟨[pc, pf, b], b, r, pf, pc, nm, fr, fs, cs, rfl, b2', e2' _ _ hf, ?_, by omega, by simp, by simp, hal b2' (e2' _ _ hf) (e2' _ _ hc), rS, fb.symm, cb, cf', onm, e2' _ _ hc, dpa_ex (dl_ex e2') dc, by omega, fun g hg => ⟨(ofs g hg).1.n, (ofs g hg).1.p4⟩, fun v tf fr' h3 k3' b3' f3 d3 tn to tc tp tb tl tfr => ?_⟩
    · exact fun x hx => nm_ok x (by rw [enm]; exact List.mem_append_right _ hx)
    walk_at "r"
    have hc3 : h3 pc = some (.lst cs) := k3' _ _ (by simpa using ⟨cb, cf'⟩) (e2' _ _ hc)
    refine a_app hc3 (by omega) ?_
    have kS : Ks [pc] h3 (upd h3 pc (.lst (cs ++ [v]))) := (Ks.refl _ _).upd (by simp)
    have f4 : upd h3 pc (.lst (cs ++ [v])) pc = some (.lst (cs ++ [v])) := upd_same
    have d4 : dl [pc, pf, b] (upd h3 pc (.lst (cs ++ [v]))) = dl [pc, pf, b] h3 := dl_upd (by simp)
    generalize upd h3 pc (.lst (cs ++ [v])) = h4 at kS f4 d4 ⊢
    have x23 : Ex (dl [pc, pf, b] h) (dl [pc, pf, b] h3) := (dl_ex e2').trans (dl_ks (k3'.mono (by simp)))
    refine ⟨⟨_, _, _, rfl⟩, fun a o na ha => ?_, bx_ks b3' kS (by simpa using cb.symm) (by simpa using bx_nr bx1 n2), fr', _, fs ++ [tf], kS _ _ (by simpa using cf'.symm) f3, f4, ?_, by rw [List.length_append, lfs]; rfl, ?_, ?_, ?_, ?_, ?_⟩
    · have z := nf ha
      rw [List.mem_singleton] at na
      exact kS _ _ (by simpa using z.2) (k3' _ _ (by simpa using ⟨na, z.1⟩) (e2' _ _ (KH a o (by simpa using na) ha)))
    · rw [d4, List.map_append]
      exact dpa_snoc (dpa_ex x23 dc) d3
    · rw [List.map_append, nfs, take_snoc hn1]
      show _ ++ [tf.n] = _
      rw [tn]
    · intro f hf
      rcases List.mem_append.mp hf with hf | hf
      · exact ofs f hf
      · rw [List.mem_singleton] at hf
        rw [hf]
        exact ⟨to, tp, tb, tl⟩
    · exact Fit.snoc fs [] fit (by simpa using tc) (fun s hs => by cases hs)
    · rw [enm, tfr, declF_snoc]
      simp [List.map_append, List.append_assoc]
    · have := congrArg List.length tfr
      rw [List.length_append, List.length_map, List.length_append] at this
      have := lets_le tf.b
      omega
  · rintro σ h ⟨⟨x4, x5, x6, rfl⟩, KH, bh, fr, cs, fs, hf, hc, dc, lfs, nfs, ofs, fit, enm, lfr⟩
    have hfs2 : fs.length ≤ 2 := by omega
    have lcs : cs.length = fs.length := by rw [dpa_len dc, List.length_map]
    walk_at "r"
    refine new_lst (xs := []) (by simp) fun pn h1 m1 g1 i1 => ?_
    walk_at "r"
    refine new_dK fun pt h2 m2 g2 i2 => ?_
    walk_at "r"
    have bh1 := bx_ex bh g1
    have bh2 := bx_ex bh1 g2
    have al2 : Al (pt :: pn :: [pc, pf, b]) h2 := ((hal bh hf hc).add g1 i1).add g2 i2
    have npt : pn ≠ pt := ne_old i1 m2
    have G0 : GS K (pt :: pn :: [pc, pf, b]) h2 b r pf pn pt fr [] e0 0 := {
      bx := bh2
      f := g2 _ _ (g1 _ _ hf)
      nm := g2 _ _ i1
      t := TyN.new i2
      m := ⟨by simp, by simp, by simp, by simp⟩
      al := al2
      rn := nin_cons (bx_nr bh1 m2) (nin_cons (bx_nr bh m1) rS)
      d1 := ⟨fb.symm, bx_nb bh m1, bx_nb bh1 m2⟩
      d2 := ⟨ne_old hf m1, ne_old (g1 _ _ hf) m2, npt⟩
      kn := fun x hx => by cases hx
      xl := Nat.le_refl _
      fo := fun x hx => nm_ok x (by rw [enm]; exact List.mem_append_right _ hx) }
    have m4c : pc ∉ M4 b pf pn pt := by simpa using ⟨cb, cf', ne_old hc m1, ne_old (g1 _ _ hc) m2⟩
    have XS : Ex (dl [pc, pf, b] h) (dl (pt :: pn :: [pc, pf, b]) h2) := (dl_new m1 g1).trans (dl_new m2 g2)
    have KH2 : Ks [b] H h2 := KH.trans (Ks.of (g1.trans g2))
    have npH : H pn = none := ks_none KH m1 (by simpa using (bx_nb bh m1).symm)
    have ntH : H pt = none := ks_none (KH.trans (Ks.of g1)) m2 (by simpa using (bx_nb bh1 m2).symm)
    refine ap_draw bh2 (by omega) fun v5 h3 v50 v54 k5 b5 => ?_
    walk_at "r"
    have G3 := G0.draw k5 b5
    have KH3 : Ks [b] H h3 := KH2.trans k5
    have hc3 : h3 pc = some (.lst cs) := k5 _ _ (by simpa using cb) (g2 _ _ (g1 _ _ hc))
    have X3 : Ex (dl [pc, pf, b] h) (dl (pt :: pn :: [pc, pf, b]) h3) := XS.trans (dl_ks (k5.mono (by simp)))
    have k4 : ∀ {h h' : Hp}, Ks [b] H h → Ks (M4 b pf pn pt) h h' → Ks [b] H h' := fun {h h'} k1 k2 a o na ha => by
      have z := nf ha
      refine k2 a o ?_ (k1 a o na ha)
      simp only [List.mem_cons, List.not_mem_nil, or_false, not_or] at na ⊢
      exact ⟨na, z.1, ne_old ha npH, ne_old ha ntH⟩
    refine c_R1 (by omega) ?_
    refine cp_range (fun D k h' => D ∉ M4 b pf pn pt ∧ Ks [b] H h' ∧ Ex (dl [pc, pf, b] h) (dl (D :: pt :: pn :: [pc, pf, b]) h') ∧ h' pc = some (.lst cs) ∧
        ∃ fr2 xs2 e2 acc2 ss, GS K (D :: pt :: pn :: [pc, pf, b]) h' b r pf pn pt fr2 xs2 e2 k ∧ h' D = some (.lst acc2) ∧ DpAll K (dl (D :: pt :: pn :: [pc, pf, b]) h') acc2 (List.map stD ss) ∧ ss.length = k ∧ (∀ s ∈ ss, (stO s ∧ ∀ q ∈ lets [s], q.2.length ≤ 4) ∧ cf fs s) ∧ fr = (lets ss).map Prod.fst ++ fr2)
      (fun D nD => ⟨?_, KH3.mut (ks_none KH3 nD (by simpa using (bx_nb b5 nD).symm)), X3.trans (dl_new nD (Ex.new nD)), (Ex.new nD) _ _ hc3, fr, [], e0, [], [], G3.grow nD (Ex.new nD) upd_same, upd_same, .nil, rfl, (fun s hs => by cases hs), rfl⟩) ?_ ?_
    · obtain ⟨kvs, f, _⟩ := G3.t
      simpa using ⟨(bx_nb b5 nD).symm, (ne_old G3.f nD).symm, (ne_old G3.nm nD).symm, (ne_old f nD).symm⟩
    · rintro D k h' nD hk ⟨dm, KH', X', hc', fr2, xs2, e2', acc2, ss, gs', fD, D2, lss, oss, ef2⟩
      have hk3 : k < 20 := by omega
      have lfr2 : 1 ≤ fr2.length := by
        have := congrArg List.length ef2
        rw [List.length_append, List.length_map] at this
        have := lets_le ss
        omega
      have la2 : acc2.length = ss.length := by rw [dpa_len D2, List.length_map]
      have dc' := dpa_ex X' dc
      walk_at "r"
      refine ⟨rfl, ?_⟩
      walk_at "r"
      refine ⟨D :: pt :: pn :: [pc, pf, b], b, r, pf, pn, pt, pc, fr2, xs2, e2', k, fs, cs, rfl, gs', by omega, lfr2, SqL.of hc', by simpa using m4c, dc', by omega, fun g hg => ⟨(ofs g hg).1.n, (ofs g hg).1.p4⟩, fun v st fr3 xs3 e3' h4 k4' gs3 d3 o3 l3 c3 ef3 => ?_⟩
      have fD3 := k4' _ _ dm fD
      have x3 : Ex (dl (D :: pt :: pn :: [pc, pf, b]) h') (dl (D :: pt :: pn :: [pc, pf, b]) h4) := dl_ks (k4'.mono gs'.m4)
      have dD : dl (D :: pt :: pn :: [pc, pf, b]) (upd h4 D (.lst (acc2 ++ [v]))) = dl (D :: pt :: pn :: [pc, pf, b]) h4 := dl_upd (List.mem_cons_self ..)
      have kD : Ks [D] h4 (upd h4 D (.lst (acc2 ++ [v]))) := (Ks.refl _ _).upd (by simp)
      have nDH : H D = none := ks_none KH3 nD (by simpa using (bx_nb b5 nD).symm)
      have Dpc : pc ≠ D := ne_old hc3 nD
      refine ⟨acc2, fD3, sz_lt (by omega), dm, fun a o na ha => kD _ _ (by simpa using ne_old ha nDH) (k4 KH' k4' a o na ha), by rw [dD]; exact X'.trans x3, kD _ _ (by simpa using Dpc) (k4' _ _ m4c hc'), fr3, xs3, e3', _, ss ++ [st], ?_, upd_same, ?_, by rw [List.length_append, lss]; rfl, ?_, ?_⟩
      · have dm' : b ≠ D ∧ pf ≠ D ∧ pn ≠ D ∧ pt ≠ D := by
          simp only [List.mem_cons, List.not_mem_nil, or_false, not_or] at dm
          exact ⟨Ne.symm dm.1, Ne.symm dm.2.1, Ne.symm dm.2.2.1, Ne.symm dm.2.2.2⟩
        exact {
          bx := bx_ks gs3.bx kD (by simpa using dm'.1) (by simpa using bx_nr b5 nD)
          f := kD _ _ (by simpa using dm'.2.1) gs3.f
          nm := kD _ _ (by simpa using dm'.2.2.1) gs3.nm
          t := gs3.t.ks kD (by simp) (by simpa using dm'.2.2.2)
          m := gs3.m
          al := gs3.al.upd
          rn := gs3.rn
          d1 := gs3.d1
          d2 := gs3.d2
          kn := gs3.kn
          xl := gs3.xl
          fo := gs3.fo }
      · rw [dD, List.map_append]
        exact dpa_snoc (dpa_ex x3 D2) d3
      · intro s hs
        rcases List.mem_append.mp hs with hs | hs
        · exact oss s hs
        · rw [List.mem_singleton] at hs
          rw [hs]
          exact ⟨⟨o3, l3⟩, c3⟩
      · rw [ef2, ef3, lets_app, List.map_append, List.append_assoc]
    · rintro D h' nD ⟨dm, KH', X', hc', fr2, xs2, e2', acc2, ss, gs', fD, D2, lss, oss, ef2⟩
      walk_at "r"
      refine new_lst (by simp) fun t h4 n4 e4 f4 => ?_
      have nDb : D ∉ [b] := by simpa using (bx_nb b5 nD).symm
      have ncb : pc ∉ [b] := by simpa using cb
      have ntb : t ∉ [b] := by simpa using (bx_nb gs'.bx n4).symm
      have sub : Ex (dl (D :: pt :: pn :: [pc, pf, b]) h') (dl [b] h') := dl_sub (by simp)
      have C2 : DpAll K (dl [b] h4) cs (List.map tfD fs) := dpa_ex ((X'.trans sub).trans (dl_ex e4)) dc
      have B2 : DpAll K (dl [b] h4) acc2 (List.map stD ss) := dpa_ex (sub.trans (dl_ex e4)) D2
      have dt : Dp K (dl [b] h4) (.ref t) (.list [.list (List.map tfD fs), .list (List.map stD ss)]) := Dp.inL f4 ntb (.cons (Dp.inL (e4 _ _ hc') ncb C2) (.cons (Dp.inL (e4 _ _ fD) nDb B2) .nil))
      have nmp : NM = (decl fs ss).map Prod.fst ++ fr2 := by
        rw [enm, ef2]
        unfold decl
        rw [List.map_append, List.append_assoc]
      have nd2 := nm_nd
      rw [nmp] at nd2
      refine q t fs ss h4 (KH'.trans (Ks.of e4)) (bx_ex gs'.bx e4) dt ⟨by omega, fun f hf => (ofs f hf).1, by omega, fun s hs => (oss s hs).1.1, ?_, Fit.stm fs [] fit (fun s hs => (oss s hs).2)⟩ ⟨by omega, hfs2, fun f hf => ?_, fun f hf => ⟨(ofs f hf).2.1, (ofs f hf).2.2.1⟩, fun x hx => by rw [nmp]; exact List.mem_append_left _ hx, fun q hq => by
        rcases List.mem_append.mp (show q ∈ declF fs ++ lets ss from hq) with hq | hq
        · obtain ⟨f, hf, hq⟩ := List.mem_flatMap.mp hq
          exact (ofs f hf).2.2.2 q hq
        · exact l4_of (ps := []) (fun q hq => by cases hq) (fun s hs => (oss s hs).1.2) q hq⟩
      · refine List.nodup_append.mpr ⟨?_, (List.nodup_append.mp nd2).1, fun x hx y hy => ?_⟩
        · rw [nfs]
          exact List.Nodup.sublist (List.take_sublist _ _) (by decide +kernel)
        · have hx' : x ∈ [("fa" : Str), "fb"] := by
            rw [nfs] at hx
            exact List.mem_of_mem_take hx
          have hy' : y ∈ NM := by rw [nmp]; exact List.mem_append_left _ hy
          intro z
          subst z
          simp only [List.mem_cons, List.not_mem_nil, or_false] at hx'
          rcases hx' with rfl | rfl
          · exact nm_fa hy'
          · exact nm_fb hy'
      · have hx' : f.n ∈ [("fa" : Str), "fb"] := by
          have : f.n ∈ fs.map TF.n := List.mem_map_of_mem hf
          rw [nfs] at this
          exact List.mem_of_mem_take this
        simpa using hx'
end
section
variable {P : Program} {w : World} {K : PySem.W.Frag} {mg : Str → Option Value} {base : Heap}
theorem fdat_at {fs : List FD} {k : Nat} {d : PyData} (h : (fs.map fdat)[k]? = some d) : ∃ f, fs[k]? = some f ∧ d = fdat f := by
  rw [List.getElem?_map] at h
  cases e : fs[k]? with
  | none => rw [e] at h; cases h
  | some f => rw [e] at h; exact ⟨f, rfl, (Option.some.inj h).symm⟩
structure PgF (K : PySem.W.Frag) (CP CF : Addr) (H : Hp) (z : Addr) (fs : List FD) (ss : List PyData) : Prop where
  ex : ∃ dz r1 r2 ws1 ws2, H z = some (.ins CP dz (pgF r1 r2)) ∧ H r1 = some (.lst ws1) ∧ FnAll K CF H ws1 fs ∧ H r2 = some (.lst ws2) ∧ DpAll K H ws2 ss
def pMdX (K : PySem.W.Frag) (CP CF CE : Addr) : Sp := fun vs H Q E => ∃ v fs ss, vs = [v] ∧ Ds K H v (.list [.list (List.map fdat fs), .list ss]) ∧
  (progD fs ss = true → ∀ z H', H z = none → Ex H H' → PgF K CP CF H' z fs ss → Q (.ref z) H') ∧
  (progD fs ss = false → ∀ d H', Ex H H' → H' d = some (.xd [("reason", .str "no program")]) → E (.ref CE) (some d) H')
theorem ok__law_made (T : Tx K mg) : FnOk P w K mg base (L2.CX P w) 11 T.a__law_made T.e__law_made p__law_made (pMdX K T.C_Program T.C_Function T.C_RightsError) := by
  refine T.d__law_made.F.okX sc__law_made (fun vs H Q E h => ?_) (fun cdv A outer s H vs Q E hr h => ?_)
  · obtain ⟨v, fs, ss, rfl, _⟩ := h
    rfl
  obtain ⟨v0, fs, ss, rfl, hp, q, qe⟩ := h
  refine ⟨_, (pss_cons (ps_setLc (i := 1) (own := [("f", 2)]) (g := gName 2) rfl sc__law_made.nd rfl rfl (sw_true rfl rfl rfl (by decide +kernel)) (plK K (pe_ix (ixL K) (pv 0) pe_int (fun _ _ => rfl))) (blkOk_by (own := [("f", 2)]) (N := n__law_made) (sc := defScope s__law_made) (by decide +kernel)) (fun _ _ _ _ _ => (pg_name (i := 2) sc__law_made.nd rfl (Or.inl rfl))) (fun _ _ _ _ _ => pts_nil) (fun _ _ _ _ _ => (pe_make T.k_Function (ok_Function_init T) (hr.mono (by omega)) (by rfl) T.g_Function T.d_Function_init.b .nil pass0 (pa_cons (pe_ix (ixL K) (pv 2) pe_int (fun _ _ => rfl)) (pa_cons (pe_callTy (lstK K) (by rfl) T.b_list (by decide +kernel) (pa_cons (pe_ix (ixL K) (pv 2) pe_int (fun _ _ => rfl)) pa_nil)) (pa_cons (pe_callTy (lstK K) (by rfl) T.b_list (by decide +kernel) (pa_cons (pe_ix (ixL K) (pv 2) pe_int (fun _ _ => rfl)) pa_nil)) pa_nil))))))
    (pss_one (ps_ret (pe_makeS T.k_Program (ok_Program_init T) (hr.mono (by omega)) (by rfl) T.g_Program T.d_Program_init.b (fun σ => passAt (takes_of rfl rfl rfl rfl) σ) (pa_cons (pv 1) (pa_cons (pe_callTy (lstK K) (by rfl) T.b_list (by decide +kernel) (pa_cons (pe_ix (ixL K) (pv 0) pe_int (fun _ _ => rfl)) pa_nil)) pa_nil)))))), ?_⟩
  obtain ⟨p0, us, _, rfl, e0, hp2, hpD, hpm, _, _⟩ := ds_lst hp rfl
  cases e0
  obtain ⟨u1, u2, rfl, d1, d2⟩ := dpa_two hpD rfl
  have hpm' := (Bool.and_eq_true _ _ ▸ hpm : smD (.list (List.map fdat fs)) = true ∧ _)
  have sm1 : smD (.list (List.map fdat fs)) = true := hpm'.1
  have sm2 : smD (.list ss) = true := (Bool.and_eq_true _ _ ▸ hpm'.2 : smD (.list ss) = true ∧ _).1
  obtain ⟨p, xs, _, rfl, e1, hL, hD, hm, hz, hl⟩ := ds_lst (⟨d1, sm1⟩ : Ds K H u1 _) rfl
  cases e1
  obtain ⟨ps, xt, _, rfl, e2, hL2, hD2, hm2, hz2, hl2⟩ := ds_lst (⟨d2, sm2⟩ : Ds K H u2 _) rfl
  cases e2
  rw [List.length_map] at hl hz
  walk_at "r"
  refine a_ixL (v := .ref p) hp2 (atI_nat (j := 0) rfl) ?_
  refine c_L hL ?_
  refine cp_list (xs := xs) (fun l k h => Ex H h ∧ Al [l] h ∧ ∃ ys, h l = some (.lst ys) ∧ FnAll K T.C_Function (dl [l] h) ys (fs.take k))
    (fun l n => ⟨Ex.new n, Al.nil.cons upd_same, [], upd_same, .nil⟩) (fun l k h _ _ g => ex_sl hL g.1) ?_ ?_
  · rintro l k x h nl hx ⟨e, al, ys, f, fD⟩
    obtain ⟨d, hd', dx⟩ := ds_at hD hm hx
    obtain ⟨fd, hd2, rfl⟩ := fdat_at hd'
    obtain ⟨p0, u, q1, q2, rfl, g0, gu, g1, g2⟩ := ds_fdat dx
    obtain ⟨z1, i1, j1⟩ := g1.ex
    obtain ⟨z2, i2, j2⟩ := g2.ex
    have hk := at_lt hx
    have yl := fD.len
    rw [take_len hd2] at yl
    walk_at "r"
    refine ⟨rfl, ?_⟩
    walk_at "r"
    refine a_ixL (v := u) (ex_sl g0 e) rfl ?_
    walk_at "r"
    refine a_ixL (v := .ref q1) (ex_sl g0 e) rfl ?_
    walk_at "r"
    refine a_lstL (ex_sl i1 e) fun r1 H1 n1 e1 f1 => ?_
    walk_at "r"
    refine a_ixL (v := .ref q2) (ex_sl g0 (e.trans e1)) rfl ?_
    walk_at "r"
    refine a_lstL (ex_sl i2 (e.trans e1)) fun r2 H2 n2 e2 f2 => ?_
    walk_at "r"
    have E2 := (e.trans e1).trans e2
    refine a_new fun y dy H3 n3 n4 n5 e3 f3 f4 => ?_
    have L0 : Ex H (dl [l] H2) := fun b o z => by
      have nb : b ≠ l := ne_of_none z nl
      rw [dl_nin (by simpa using nb)]
      exact E2 b o z
    have al2 := (al.ex e1).ex e2
    have ny := al2.nin n3
    have nd := al2.nin n4
    have M : Ex (dl [l] H2) (dl [y, dy, l] H3) := fun b o z => by
      by_cases hb : b ∈ [l]
      · rw [dl_in hb] at z
        cases z
      · rw [dl_nin hb] at z
        rw [dl_nin (by
          intro c
          rcases List.mem_cons.mp c with c | c
          · rw [c, n3] at z; cases z
          rcases List.mem_cons.mp c with c | c
          · rw [c, n4] at z; cases z
          · exact hb c)]
        exact e3 b o z
    have N := L0.trans M
    have r1n : r1 ∉ [l] := al.nin n1
    have r2n : r2 ∉ [l] := (al.ex e1).nin n2
    have D1 : Dl K (dl [y, dy, l] H3) r1 fd.p := ⟨⟨z1, SqL.of (M _ _ (dl_at r1n (e2 _ _ f1))), dpa_ex N j1⟩, g1.sm, g1.le⟩
    have D2 : Dl K (dl [y, dy, l] H3) r2 fd.b := ⟨⟨z2, SqL.of (M _ _ (dl_at r2n f2)), dpa_ex N j2⟩, g2.sm, g2.le⟩
    refine ⟨[y, dy, l], y, dy, u, r1, r2, fd, rfl, ((al2.ex e3).cons f4).cons f3, List.mem_cons_self .., f3, ds_ex gu N, D1, D2, fun s1 s2 w1 w2 H4 k4 m1 m2 nq c0 c1 c2 B1 B2 => ⟨rfl, ?_⟩⟩
    have E24 : Ex H2 H4 := fun b o z => k4 b o (fun c => by rw [List.mem_singleton] at c; rw [c, n3] at z; cases z) (e3 b o z)
    have O : Ex (dl [y, dy, l] H4) (dl [l] H4) := dl_sub fun b c => List.mem_cons_of_mem _ (List.mem_cons_of_mem _ c)
    have U : Ex (dl [y, dy, l] H3) (dl [y, dy, l] H4) := dl_ks fun b o hb z => k4 b o (fun c => hb (by rw [List.mem_singleton] at c; rw [c]; exact List.mem_cons_self ..)) z
    have al3 : Al [l] H3 := al2.ex e3
    have s1n : s1 ∉ [l] := al3.nin m1
    have s2n : s2 ∉ [l] := al3.nin m2
    have E04 : Ex h H4 := (e1.trans e2).trans E24
    have fl4 : fs.length ≤ 100000 := hz
    have yl2 : ys.length < 100000 := by omega
    refine ⟨ys, E04 _ _ f, sz_lt yl2, (E2.trans E24).mut nl, (al.ex E04).upd, ys ++ [.ref y], upd_same, ?_⟩
    rw [dl_upd (by simp), take_snoc hd2]
    refine FnAll.snoc ⟨dy, u, s1, s2, dl_at ny c0, ds_ex gu ((N.trans U).trans O), ⟨⟨w1, dl_at s1n c1, dpa_ex O B1⟩, g1.sm, g1.le⟩, ⟨⟨w2, dl_at s2n c2, dpa_ex O B2⟩, g2.sm, g2.le⟩⟩ (fD.up (dl_ex E04))
  · rintro l h nl ⟨e, al, ys, f, fD⟩
    rw [hl, List.take_length] at fD
    walk_at "r"
    refine a_ixL (v := .ref ps) (ex_sl hp2 e) (atI_nat (j := 1) rfl) ?_
    walk_at "r"
    refine a_lstL (ex_sl hL2 e) fun r1 H1 n1 e1 f1 => ?_
    walk_at "r"
    refine a_newS fun x dx H2 n2 n3 n4 e2 f2 f3 => ?_
    have N := ex_two n2 n3 e2
    have G1 : FnAll K T.C_Function (dl [x, dx] H2) ys fs := fD.up (((dl_le [l] h).trans e1).trans N)
    refine ⟨[x, dx], x, dx, l, r1, ys, fs, ss, rfl, (Al.nil.cons f3).cons f2, List.mem_cons_self .., f2, SqL.of (N _ _ (e1 _ _ f)), G1, hz, ⟨⟨xt, SqL.of (N _ _ f1), dpa_ex ((e.trans e1).trans N) hD2⟩, hm2, hz2⟩, fun c q1 q2 w1 w2 H3 k3 m1 m2 c0 c1 A1 _ c2 B2 => ⟨rfl, ?_⟩, fun c d H3 k3 m1 c1 => ?_⟩
    · have E3 : Ex H H3 := fun b o z => k3 b o (fun y => ne_of_none ((e.trans e1) b o z) n2 (by simpa using y)) (e2 b o ((e.trans e1) b o z))
      have O := dl_le [x, dx] H3
      exact q c x H3 (ex_none (e.trans e1) n2) E3 ⟨dx, q1, q2, w1, w2, c0, c1, A1.up O, c2, dpa_ex O B2⟩
    · have E3 : Ex H H3 := fun b o z => k3 b o (fun y => ne_of_none ((e.trans e1) b o z) n2 (by simpa using y)) (e2 b o ((e.trans e1) b o z))
      exact qe c d H3 E3 c1
end
section
variable {P : Program} {w : World} {K : PySem.W.Frag} {mg : Str → Option Value} {base : Heap}
open TL
theorem ext_len {a : Ln} {b : Str} (h : tl b = a) : b = mkS a := by rw [← h, mkS_tl]
theorem nm_len {x : Str} (h : nmO x) : (tl x).length ≤ 8 := (nm_low h).2.2
theorem rs_len (T : List R) : ((T.map fun r : R => tl r.s).map List.length).sum ≤ 2 * T.length ∧ (joinL [32] (T.map fun r : R => tl r.s)).length ≤ 3 * T.length := by
  have k : ∀ r : R, (tl r.s).length ≤ 2 := fun r => by cases r <;> decide +kernel
  induction T with
  | nil => exact ⟨Nat.le_refl _, Nat.le_refl _⟩
  | cons r T ih =>
    have := k r
    constructor
    · simp only [List.map_cons, List.sum_cons, List.length_cons]
      have := ih.1
      omega
    · cases T with
      | nil =>
        show (tl r.s).length ≤ 3
        omega
      | cons r2 T =>
        show (tl r.s ++ ([32] ++ joinL [32] ((r2 :: T).map fun r : R => tl r.s))).length ≤ _
        rw [List.length_append, List.length_append]
        have := ih.2
        simp only [List.length_cons] at this ⊢
        simp only [List.length_nil]
        omega
theorem kd_len {sk : Bool} {T : List R} (h : tyO T) : (kdX sk T).length ≤ 18 := by
  cases sk with
  | true =>
    show (numL (T.length - 1)).length ≤ 18
    rw [numL_lt (by have := h.2; omega)]
    exact (by decide : 1 ≤ 18)
  | false =>
    have := (rs_len T).2
    have := h.2
    show (joinL [32] (T.map fun r : R => tl r.s)).length ≤ 18
    omega
theorem dc_len {sk : Bool} {q : Str × List R} (h : nmO q.1) (t : tyO q.2) : (dcX sk q).length ≤ 29 := by
  unfold dcX
  rw [List.length_append, List.length_append, sCol]
  have := nm_len h
  have := kd_len (sk := sk) t
  simp only [List.length_cons, List.length_nil]
  omega
def pDct (K : PySem.W.Frag) : Sp := fun vs H Q _ => ∃ x v sk T, vs = [.str x, v] ∧ Dp K H v (kdY sk T) ∧ nmO x ∧ tyO T ∧ ∀ H1, Ex H H1 → Q (.str (mkS (dcX sk (x, T)))) H1
theorem tv_mk (U : List R) : tv U = ((U.map fun r : R => tl r.s).map mkS).map V.str := by
  unfold tv
  rw [List.map_map, List.map_map]
  refine List.map_congr_left fun r _ => ?_
  show V.str r.s = V.str (mkS (tl r.s))
  rw [mkS_tl]
theorem tl_empty : tl Str.empty = [] := rfl
theorem ok_declared_text (T : Tx K mg) : FnOk P w K mg base CX0 1 T.a_declared_text T.e_declared_text p_declared_text (pDct K) := by
  refine T.d_declared_text.F.ok sc_declared_text (fun vs H Q E h => ?_) (fun cdv A outer s H vs Q E hr h => ?_)
  · obtain ⟨x, v, sk, U, rfl, _⟩ := h
    rfl
  obtain ⟨x, v, sk, U, rfl, dv, nx, tU, q⟩ := h
  have hu := hu_of hr
  refine ⟨_, (pss_cons (ps_if (pt_cmpR k_isTy (pe_callTy (typK K) (by rfl) T.b_type (by decide +kernel) (pa_cons (pv 1) pa_nil)) (pe_bltn (v := .ty "tuple") (by rfl) T.b_tuple (by decide +kernel) rfl) (nomark _)) (pss_one (ps_ret (pe_op op_add_str (pe_joined (PJ.cons (pe_fmt (pv 0)) (PJ.cons pe_str PJ.nil))) (pe_joinK K pe_str (pv 1))))) pss_nil)
    (pss_one (ps_ret (pe_joined (PJ.cons (pe_fmt (pv 0)) (PJ.cons pe_str (PJ.cons (pe_fmt (pv 1)) PJ.nil))))))), ?_⟩
  have lx := nm_len nx
  have l3 : (tl " : ").length = 3 := by rw [sCol]; rfl
  have lk := kd_len (sk := sk) tU
  walk_at "r"
  refine ⟨v, _, rfl, dp_tag dv, ?_⟩
  walk_at "r"
  cases sk with
  | false =>
    refine ite2 (fun y => ?_) (fun y => absurd rfl y)
    obtain ⟨p, rfl, hp⟩ := dp_ruT dv
    walk_at "r"
    refine a_fmtS (by omega) ?_
    refine a_js (by rw [tl_empty]; show 0 + _ ≤ _; omega) ?_
    walk_at "r"
    refine a_js (by rw [tl_append, List.length_append, tl_empty]; show 0 + _ + _ ≤ _; omega) ?_
    walk_at "r"
    have := (rs_len U).1
    have := tU.2
    refine ⟨⟨_, rfl⟩, ?_⟩
    walk_at "r"
    refine a_join (ls := U.map fun r : R => tl r.s) (.inr (by rw [← tv_mk]; exact hp)) (by rw [List.length_map, show (tl " ").length = 1 from by decide +kernel]; omega) ?_
    have e0 : tl " " = [32] := by decide +kernel
    rw [e0]
    have e1 : joinL [32] (U.map fun r : R => tl r.s) = kdX false U := rfl
    rw [e1]
    refine a_catS (by rw [tl_append, tl_append, List.length_append, List.length_append, tl_empty, tl_mkS]; show 0 + _ + _ + _ ≤ _; omega) ?_
    have e : Str.empty ++ x ++ " : " ++ mkS (kdX false U) = mkS (dcX false (x, U)) := ext_len (by simp [tl_append, tl_empty, tl_mkS, dcX])
    rw [e]
    exact q H (Ex.refl _)
  | true =>
    refine ite2 (fun y => absurd (show ("int" : String) = "tuple" from of_decide_eq_true y) (by decide)) (fun y => ?_)
    cases dp_int (show Dp K H v (.int ((U.length : Int) - 1)) from dv)
    have h1 := tU.1
    have h2 := tU.2
    walk_at "r"
    refine a_fmtS (by omega) ?_
    refine a_js (by rw [tl_empty]; show 0 + _ ≤ _; omega) ?_
    walk_at "r"
    refine a_js (by rw [tl_append, List.length_append, tl_empty]; show 0 + _ + _ ≤ _; omega) ?_
    walk_at "r"
    rw [show (U.length : Int) - 1 = ((U.length - 1 : Nat) : Int) from by omega]
    refine a_fmtN (by omega) ?_
    rw [str_num]
    have e1 : numL (U.length - 1) = kdX true U := rfl
    rw [e1]
    refine a_js (by rw [tl_append, tl_append, List.length_append, List.length_append, tl_empty, tl_mkS]; show 0 + _ + _ + _ ≤ _; omega) ?_
    walk_at "r"
    have e : Str.empty ++ x ++ " : " ++ mkS (kdX true U) = mkS (dcX true (x, U)) := ext_len (by simp [tl_append, tl_empty, tl_mkS, dcX])
    rw [e]
    exact q H (Ex.refl _)
def pPlt (K : PySem.W.Frag) : Sp := fun vs H Q _ => ∃ p x k, vs = [.ref p] ∧ SqT K H p [.str x, .int (k : Nat)] ∧ nmO x ∧ k ≤ 5 ∧ ∀ H1, Ex H H1 → Q (.str (mkS (plX x k))) H1
theorem plx_len {x : Str} (h : nmO x) {k : Nat} (l : k ≤ 5) : (plX x k).length ≤ 13 := by
  unfold plX
  rw [List.length_append, List.length_replicate]
  have := nm_len h
  omega
theorem ok_place_text (T : Tx K mg) : FnOk P w K mg base CX0 1 T.a_place_text T.e_place_text p_place_text (pPlt K) := by
  refine T.d_place_text.F.ok sc_place_text (fun vs H Q E h => ?_) (fun cdv A outer s H vs Q E hr h => ?_)
  · obtain ⟨p, x, k, rfl, _⟩ := h
    rfl
  obtain ⟨p, x, k, rfl, hp, nx, k5, q⟩ := h
  refine ⟨_, (pss_cons (ps_asg (pv 0) (pg_tup (by rfl) (pgs_cons (pg_name (i := 1) sc_place_text.nd rfl (.inl rfl)) (pgs_cons (pg_name (i := 2) sc_place_text.nd rfl (.inl rfl)) pgs_nil))))
    (pss_one (ps_ret (pe_op op_add_str (pe_op op_mulS pe_str (pv 2)) (pv 1))))), ?_⟩
  have lx := nm_len nx
  walk_at "r"
  refine w_gtup (xs := [.str x, .int (k : Nat)]) hp rfl ?_
  walk_at "r"
  refine a_mulS (n := k) (by omega) ?_
  walk_at "r"
  refine a_catS (by rw [tl_mkS, List.length_replicate]; omega) ?_
  have e : mkS (List.replicate k 42) ++ x = mkS (plX x k) := ext_len (by rw [tl_append, tl_mkS]; rfl)
  rw [e]
  exact q H (Ex.refl _)
theorem sr_len {s : Src} (h : sO s) : (srX s).length ≤ 14 := by
  cases s with
  | num n =>
    have := num_len4 (n := n.toNat) (by have := h.1; have := h.2; omega)
    show (numL n.toNat).length ≤ 14
    omega
  | null => decide +kernel
  | val x k =>
    have := plx_len h.1 h.2
    show (plX x k).length ≤ 14
    omega
  | adr x k =>
    have := plx_len h.1 h.2
    show (plX x k).length + 1 ≤ 14
    omega
def pSrt (K : PySem.W.Frag) : Sp := fun vs H Q _ => ∃ v s, vs = [v] ∧ Dp K H v (sD s) ∧ sO s ∧ ∀ H1, Ex H H1 → Q (.str (mkS (srX s))) H1
theorem ok_source_text (T : Tx K mg) : FnOk P w K mg base CX0 2 T.a_source_text T.e_source_text p_source_text (pSrt K) := by
  refine T.d_source_text.F.ok sc_source_text (fun vs H Q E h => ?_) (fun cdv A outer s H vs Q E hr h => ?_)
  · obtain ⟨v, s, rfl, _⟩ := h
    rfl
  obtain ⟨v, s, rfl, dv, so, q⟩ := h
  refine ⟨_, (pss_cons (ps_set (i := 1) sc_source_text.nd rfl (.inl rfl) (pe_ix (ixT K) (pv 0) pe_int (fun _ _ => rfl)))
    (pss_cons (ps_if (pt_cmpR op_eq (pv 1) pe_str (nomark _)) (pss_one (ps_ret (pv 1))) pss_nil)
    (pss_cons (ps_if (pt_cmpR op_eq (pv 1) pe_str (nomark _)) (pss_one (ps_ret (pe_callTy strK (by rfl) T.b_str (by decide +kernel) (pa_cons (pe_ix (ixT K) (pv 0) pe_int (fun _ _ => rfl)) pa_nil)))) pss_nil)
    (pss_cons (ps_if (pt_cmpR op_eq (pv 1) pe_str (nomark _)) (pss_one (ps_ret (pe_op op_add_str pe_str (pe_call (ok_place_text T) (hr.mono (by omega)) (by rfl) T.d_place_text.m T.d_place_text.F.kp T.d_place_text.b .nil pass0 (pa_cons (pe_ix (ixT K) (pv 0) pe_int (fun _ _ => rfl)) pa_nil))))) pss_nil)
    (pss_one (ps_ret (pe_call (ok_place_text T) (hr.mono (by omega)) (by rfl) T.d_place_text.m T.d_place_text.F.kp T.d_place_text.b .nil pass0 (pa_cons (pe_ix (ixT K) (pv 0) pe_int (fun _ _ => rfl)) pa_nil)))))))), ?_⟩
  cases s with
  | num n =>
    obtain ⟨p, y1, y2, rfl, hp, k1, k2⟩ := dp_two dv
    cases dp_str k1
    cases dp_int k2
    obtain ⟨n0, n1⟩ := so
    walk_at "r"
    refine a_ixT (v := .str "number") hp (atI_nat (j := 0) rfl) ?_
    walk_at "r"
    refine ite2 (fun y => absurd y (by decide +kernel)) (fun _ => ?_)
    walk_at "r"
    refine ite2 (fun _ => ?_) (fun y => absurd y (by decide +kernel))
    walk_at "r"
    refine a_ixT (v := .int n) hp (atI_nat (j := 1) rfl) ?_
    rw [show n = ((n.toNat : Nat) : Int) from by omega]
    refine a_strN (by omega) ?_
    exact q H (Ex.refl _)
  | null =>
    obtain ⟨p, xs, rfl, hp, hd⟩ := dp_tup dv
    cases hd with
    | cons h1 t =>
      cases t
      cases dp_str h1
      walk_at "r"
      refine a_ixT (v := .str "null") hp (atI_nat (j := 0) rfl) ?_
      walk_at "r"
      refine ite2 (fun _ => ?_) (fun y => absurd y (by decide +kernel))
      walk_at "r"
      have := q H (Ex.refl _)
      rw [show mkS (srX .null) = "null" from mkS_tl _] at this
      exact this
  | val x k =>
    obtain ⟨p, y1, y2, rfl, hp, k1, k2⟩ := dp_two dv
    cases dp_str k1
    obtain ⟨p2, z1, z2, rfl, hp2, m1, m2⟩ := dp_two k2
    cases dp_str m1
    cases dp_int m2
    walk_at "r"
    refine a_ixT (v := .str "value") hp (atI_nat (j := 0) rfl) ?_
    walk_at "r"
    refine ite2 (fun y => absurd y (by decide +kernel)) (fun _ => ?_)
    walk_at "r"
    refine ite2 (fun y => absurd y (by decide +kernel)) (fun _ => ?_)
    walk_at "r"
    refine ite2 (fun y => absurd y (by decide +kernel)) (fun _ => ?_)
    walk_at "r"
    refine a_ixT (v := .ref p2) hp (atI_nat (j := 1) rfl) ?_
    walk_at "r"
    exact ⟨p2, x, k, rfl, hp2, so.1, so.2, fun H1 e1 => q H1 e1⟩
  | adr x k =>
    obtain ⟨p, y1, y2, rfl, hp, k1, k2⟩ := dp_two dv
    cases dp_str k1
    obtain ⟨p2, z1, z2, rfl, hp2, m1, m2⟩ := dp_two k2
    cases dp_str m1
    cases dp_int m2
    walk_at "r"
    refine a_ixT (v := .str "address") hp (atI_nat (j := 0) rfl) ?_
    walk_at "r"
    refine ite2 (fun y => absurd y (by decide +kernel)) (fun _ => ?_)
    walk_at "r"
    refine ite2 (fun y => absurd y (by decide +kernel)) (fun _ => ?_)
    walk_at "r"
    refine ite2 (fun _ => ?_) (fun y => absurd y (by decide +kernel))
    walk_at "r"
    refine a_ixT (v := .ref p2) hp (atI_nat (j := 1) rfl) ?_
    walk_at "r"
    refine ⟨p2, x, k, rfl, hp2, so.1, so.2, fun H1 e1 => ?_⟩
    have := plx_len so.1 so.2
    refine a_catS (by rw [tl_mkS, show (tl "&").length = 1 from by decide +kernel]; omega) ?_
    have e : ("&" : Str) ++ mkS (plX x k) = mkS (srX (.adr x k)) := ext_len (by rw [tl_append, tl_mkS, show tl "&" = [38] from by decide +kernel]; rfl)
    rw [e]
    exact q H1 e1
end
section
variable {P : Program} {w : World} {K : PySem.W.Frag} {mg : Str → Option Value} {base : Heap}
open TL
theorem jn_len : ∀ {ls : List Ln} {m : Nat}, (∀ l ∈ ls, l.length ≤ m) → (joinL (tl ", ") ls).length ≤ (m + 2) * ls.length ∧ (ls.map List.length).sum ≤ m * ls.length
  | [], m, _ => by simp [joinL]
  | [l], m, h => by
    have := h l (List.mem_cons_self ..)
    show l.length ≤ (m + 2) * 1 ∧ l.length + 0 ≤ m * 1
    omega
  | l :: l2 :: ls, m, h => by
    have h1 := h l (List.mem_cons_self ..)
    have ih := jn_len (ls := l2 :: ls) (m := m) fun x mx => h x (List.mem_cons_of_mem _ mx)
    constructor
    · show (l ++ (tl ", " ++ joinL (tl ", ") (l2 :: ls))).length ≤ _
      rw [List.length_append, List.length_append, sCom]
      rw [List.length_cons (a := l), Nat.mul_succ]
      have := ih.1
      simp only [sCom] at this
      simp only [List.length_cons, List.length_nil] at this ⊢
      omega
    · rw [List.map_cons, List.sum_cons, List.length_cons (a := l), Nat.mul_succ]
      have := ih.2
      omega
theorem sts_len {us : List Src} (h : ∀ s ∈ us, sO s) (l4 : us.length ≤ 4) : (joinL (tl ", ") (us.map srX)).length ≤ 64 ∧ ((us.map srX).map List.length).sum ≤ 56 := by
  have := jn_len (ls := us.map srX) (m := 14) fun l m => by
    obtain ⟨s, ms, rfl⟩ := List.mem_map.mp m
    exact sr_len (h s ms)
  rw [List.length_map] at this
  omega
theorem st_len {sk : Bool} {s : Stm} (o : stO s) : (stX sk s).length ≤ 90 := by
  have w1 : (tl "let ").length = 4 := by decide +kernel
  have w2 : (tl "put ").length = 4 := by decide +kernel
  have w3 : (tl "call ").length = 5 := by decide +kernel
  have w4 : (tl " = ").length = 3 := by decide +kernel
  cases s with
  | lt x T s =>
    show (tl "let " ++ (dcX sk (x, T) ++ (tl " = " ++ srX s))).length ≤ 90
    rw [List.length_append, List.length_append, List.length_append]
    have := dc_len (sk := sk) (q := (x, T)) o.1 o.2.1
    have := sr_len o.2.2
    omega
  | put x k s =>
    show (tl "put " ++ (plX x k ++ (tl " = " ++ srX s))).length ≤ 90
    rw [List.length_append, List.length_append, List.length_append]
    have := plx_len o.1 o.2.1
    have := sr_len o.2.2
    omega
  | call f us =>
    show (tl "call " ++ (tl f ++ ([40] ++ (joinL (tl ", ") (us.map srX) ++ [41])))).length ≤ 90
    rw [List.length_append, List.length_append, List.length_append, List.length_append]
    have := nm_len o.1
    have := (sts_len o.2.2 o.2.1).1
    simp only [List.length_cons, List.length_nil]
    omega
def pStt (K : PySem.W.Frag) : Sp := fun vs H Q _ => ∃ v sk s, vs = [v] ∧ Dp K H v (stY sk s) ∧ stO s ∧ ∀ H1, Ex H H1 → Q (.str (mkS (stX sk s))) H1
theorem ok_statement_text (T : Tx K mg) : FnOk P w K mg base CX0 3 T.a_statement_text T.e_statement_text p_statement_text (pStt K) := by
  refine T.d_statement_text.F.ok sc_statement_text (fun vs H Q E h => ?_) (fun cdv A outer s H vs Q E hr h => ?_)
  · obtain ⟨v, sk, s, rfl, _⟩ := h
    rfl
  obtain ⟨v, sk, s0, rfl, dv, so, q⟩ := h
  refine ⟨_, (pss_cons (ps_set (i := 1) sc_statement_text.nd rfl (.inl rfl) (pe_ix (ixT K) (pv 0) pe_int (fun _ _ => rfl)))
    (pss_cons (ps_if (pt_cmpR op_eq (pv 1) pe_str (nomark _)) (pss_cons (ps_asg (pv 0) (pg_tup (by rfl) (pgs_cons (pg_name (i := 2) sc_statement_text.nd rfl (.inl rfl)) (pgs_cons (pg_name (i := 3) sc_statement_text.nd rfl (.inl rfl)) (pgs_cons (pg_name (i := 4) sc_statement_text.nd rfl (.inl rfl)) (pgs_cons (pg_name (i := 5) sc_statement_text.nd rfl (.inl rfl)) pgs_nil))))))
    (pss_one (ps_ret (pe_joined (PJ.cons pe_str (PJ.cons (pe_fmt (pe_call (ok_declared_text T) (hr.mono (by omega)) (by rfl) T.d_declared_text.m T.d_declared_text.F.kp T.d_declared_text.b .nil pass0 (pa_cons (pv 3) (pa_cons (pv 4) pa_nil)))) (PJ.cons pe_str (PJ.cons (pe_fmt (pe_call (ok_source_text T) (hr.mono (by omega)) (by rfl) T.d_source_text.m T.d_source_text.F.kp T.d_source_text.b .nil pass0 (pa_cons (pv 5) pa_nil))) PJ.nil)))))))) pss_nil)
    (pss_cons (ps_if (pt_cmpR op_eq (pv 1) pe_str (nomark _)) (pss_one (ps_ret (pe_joined (PJ.cons pe_str (PJ.cons (pe_fmt (pe_call (ok_place_text T) (hr.mono (by omega)) (by rfl) T.d_place_text.m T.d_place_text.F.kp T.d_place_text.b .nil pass0 (pa_cons (pe_ix (ixT K) (pv 0) pe_int (fun _ _ => rfl)) pa_nil))) (PJ.cons pe_str (PJ.cons (pe_fmt (pe_call (ok_source_text T) (hr.mono (by omega)) (by rfl) T.d_source_text.m T.d_source_text.F.kp T.d_source_text.b .nil pass0 (pa_cons (pe_ix (ixT K) (pv 0) pe_int (fun _ _ => rfl)) pa_nil))) PJ.nil))))))) pss_nil)
    (pss_cons (ps_set (i := 6) sc_statement_text.nd rfl (.inl rfl) (pe_joinK K pe_str (pe_lc (own := [("source", 5)]) (g := gName 5) rfl sc_statement_text.nd  (plK K (pe_ix (ixT K) (pv 0) pe_int (fun _ _ => rfl))) (blkOk_by (own := [("source", 5)]) (N := n_statement_text) (sc := defScope s_statement_text) (by decide +kernel)) (fun _ _ _ _ _ => (pg_name (i := 5) sc_statement_text.nd rfl (Or.inl rfl))) (fun _ _ _ _ _ => pts_nil) (fun _ _ _ _ _ => (pe_call (ok_source_text T) (hr.mono (by omega)) (by rfl) T.d_source_text.m T.d_source_text.F.kp T.d_source_text.b .nil pass0 (pa_cons (pv 5) pa_nil))))))
    (pss_one (ps_ret (pe_joined (PJ.cons pe_str (PJ.cons (pe_fmt (pe_ix (ixT K) (pv 0) pe_int (fun _ _ => rfl))) (PJ.cons pe_str (PJ.cons (pe_fmt (pv 6)) (PJ.cons pe_str PJ.nil)))))))))))), ?_⟩
  have w1 : (tl "let ").length = 4 := by decide +kernel
  have w2 : (tl "put ").length = 4 := by decide +kernel
  have w3 : (tl "call ").length = 5 := by decide +kernel
  have w4 : (tl " = ").length = 3 := by decide +kernel
  cases s0 with
  | lt x U s =>
    obtain ⟨nx, tU, os⟩ := so
    have ld := dc_len (sk := sk) (q := (x, U)) nx tU
    have lr := sr_len os
    have dv' : Dp K H v (.tuple [.str "let", .str x, kdY sk U, sD s]) := by
      cases sk <;> exact dv
    obtain ⟨p, y1, y2, y3, y4, rfl, hp, k1, k2, k3, k4⟩ := dp_fou dv'
    cases dp_str k1
    cases dp_str k2
    walk_at "r"
    refine a_ixT (v := .str "let") hp (atI_nat (j := 0) rfl) ?_
    walk_at "r"
    refine ite2 (fun _ => ?_) (fun y => absurd y (by decide +kernel))
    walk_at "r"
    refine w_gtup (xs := [.str "let", .str x, y3, y4]) hp rfl ?_
    walk_at "r"
    refine a_js (by rw [tl_empty]; show 0 + _ ≤ _; omega) ?_
    walk_at "r"
    refine ⟨x, y3, sk, U, rfl, k3, nx, tU, fun H1 e1 => ?_⟩
    refine a_fmtS (by rw [tl_mkS]; omega) ?_
    refine a_js (by rw [tl_append, List.length_append, tl_empty, tl_mkS]; show 0 + _ + _ ≤ _; omega) ?_
    walk_at "r"
    refine a_js (by rw [tl_append, tl_append, List.length_append, List.length_append, tl_empty, tl_mkS]; show 0 + _ + _ + _ ≤ _; omega) ?_
    walk_at "r"
    refine ⟨y4, s, rfl, dp_ex e1 k4, os, fun H2 e2 => ?_⟩
    refine a_fmtS (by rw [tl_mkS]; omega) ?_
    refine a_js (by rw [tl_append, tl_append, tl_append, List.length_append, List.length_append, List.length_append, tl_empty, tl_mkS, tl_mkS]; show 0 + _ + _ + _ + _ ≤ _; omega) ?_
    walk_at "r"
    have e : Str.empty ++ "let " ++ mkS (dcX sk (x, U)) ++ " = " ++ mkS (srX s) = mkS (stX sk (.lt x U s)) := ext_len (by simp [tl_append, tl_empty, tl_mkS, stX])
    rw [e]
    exact q H2 (e1.trans e2)
  | put x k s =>
    obtain ⟨nx, k5, os⟩ := so
    have lp := plx_len nx k5
    have lr := sr_len os
    have dv' : Dp K H v (.tuple [.str "put", plD x k, sD s]) := by
      cases sk <;> exact dv
    obtain ⟨p, y1, y2, y3, rfl, hp, k1, k2, k3⟩ := dp_thr dv'
    cases dp_str k1
    obtain ⟨p2, z1, z2, rfl, hp2, m1, m2⟩ := dp_two k2
    cases dp_str m1
    cases dp_int m2
    walk_at "r"
    refine a_ixT (v := .str "put") hp (atI_nat (j := 0) rfl) ?_
    walk_at "r"
    refine ite2 (fun y => absurd y (by decide +kernel)) (fun _ => ?_)
    walk_at "r"
    refine ite2 (fun _ => ?_) (fun y => absurd y (by decide +kernel))
    walk_at "r"
    refine a_js (by rw [tl_empty]; show 0 + _ ≤ _; omega) ?_
    walk_at "r"
    refine a_ixT (v := .ref p2) hp (atI_nat (j := 1) rfl) ?_
    walk_at "r"
    refine ⟨p2, x, k, rfl, hp2, nx, k5, fun H1 e1 => ?_⟩
    refine a_fmtS (by rw [tl_mkS]; omega) ?_
    refine a_js (by rw [tl_append, List.length_append, tl_empty, tl_mkS]; show 0 + _ + _ ≤ _; omega) ?_
    walk_at "r"
    refine a_js (by rw [tl_append, tl_append, List.length_append, List.length_append, tl_empty, tl_mkS]; show 0 + _ + _ + _ ≤ _; omega) ?_
    walk_at "r"
    refine a_ixT (v := y3) (ex_st hp e1) (atI_nat (j := 2) rfl) ?_
    walk_at "r"
    refine ⟨y3, s, rfl, dp_ex e1 k3, os, fun H2 e2 => ?_⟩
    refine a_fmtS (by rw [tl_mkS]; omega) ?_
    refine a_js (by rw [tl_append, tl_append, tl_append, List.length_append, List.length_append, List.length_append, tl_empty, tl_mkS, tl_mkS]; show 0 + _ + _ + _ + _ ≤ _; omega) ?_
    walk_at "r"
    have e : Str.empty ++ "put " ++ mkS (plX x k) ++ " = " ++ mkS (srX s) = mkS (stX sk (.put x k s)) := ext_len (by simp [tl_append, tl_empty, tl_mkS, stX])
    rw [e]
    exact q H2 (e1.trans e2)
  | call f us =>
    obtain ⟨nf, l4, os⟩ := so
    have lf := nm_len nf
    have ls := sts_len os l4
    have dv' : Dp K H v (.tuple [.str "call", .str f, .list (us.map sD)]) := by
      cases sk <;> exact dv
    obtain ⟨p, y1, y2, y3, rfl, hp, k1, k2, k3⟩ := dp_thr dv'
    cases dp_str k1
    cases dp_str k2
    obtain ⟨p2, xs, rfl, hl, hd⟩ := dp_lst k3
    have lx := dpa_len hd
    rw [List.length_map] at lx
    walk_at "r"
    refine a_ixT (v := .str "call") hp (atI_nat (j := 0) rfl) ?_
    walk_at "r"
    refine ite2 (fun y => absurd y (by decide +kernel)) (fun _ => ?_)
    walk_at "r"
    refine ite2 (fun y => absurd y (by decide +kernel)) (fun _ => ?_)
    walk_at "r"
    refine ⟨⟨_, rfl⟩, ?_⟩
    walk_at "r"
    refine a_ixT (v := .ref p2) hp (atI_nat (j := 2) rfl) ?_
    refine c_L hl ?_
    refine cp_list (xs := xs) (fun l j hh => Ex H hh ∧ hh l = some (.lst ((((us.take j).map srX).map mkS).map V.str))) (fun l n => ⟨Ex.new n, upd_same⟩) (fun l j hh _ _ y => ex_sl hl y.1) ?_ ?_
    · rintro l j u hh nl hj ⟨Y, fl⟩
      obtain ⟨d, hd', dx⟩ := dpa_at hd hj
      rw [List.getElem?_map] at hd'
      obtain ⟨s, hs, rfl⟩ := Option.map_eq_some_iff.mp hd'
      have jl := at_lt hs
      walk_at "r"
      refine ⟨rfl, ?_⟩
      walk_at "r"
      refine ⟨u, s, rfl, dp_ex Y dx, os s (List.mem_of_getElem? hs), fun H1 e1 => ?_⟩
      refine ⟨_, e1 _ _ fl, sz_lt (by rw [List.length_map, List.length_map, List.length_map, List.length_take]; omega), (Y.trans e1).mut nl, ?_⟩
      rw [upd_same, take_snoc hs, List.map_append, List.map_append, List.map_append]
      rfl
    · rintro l hh nl ⟨Y, fl⟩
      rw [lx, List.take_length] at fl
      have e0 : (tl ", ").length = 2 := by rw [sCom]; rfl
      refine a_join (ls := us.map srX) (.inl (SqL.of fl)) (by rw [List.length_map, e0]; omega) ?_
      walk_at "r"
      refine a_js (by rw [tl_empty]; show 0 + _ ≤ _; omega) ?_
      walk_at "r"
      refine a_ixT (v := .str f) (ex_st hp Y) (atI_nat (j := 1) rfl) ?_
      refine a_fmtS (by omega) ?_
      have o1 : (tl "(").length = 1 := by decide +kernel
      have o2 : (tl ")").length = 1 := by decide +kernel
      refine a_js (by rw [tl_append, List.length_append, tl_empty]; show 0 + _ + _ ≤ _; omega) ?_
      walk_at "r"
      refine a_js (by rw [tl_append, tl_append, List.length_append, List.length_append, tl_empty]; show 0 + _ + _ + _ ≤ _; omega) ?_
      walk_at "r"
      refine a_fmtS (by rw [tl_mkS]; omega) ?_
      refine a_js (by rw [tl_append, tl_append, tl_append, List.length_append, List.length_append, List.length_append, tl_empty, tl_mkS]; show 0 + _ + _ + _ + _ ≤ _; omega) ?_
      walk_at "r"
      refine a_js (by rw [tl_append, tl_append, tl_append, tl_append, List.length_append, List.length_append, List.length_append, List.length_append, tl_empty, tl_mkS]; show 0 + _ + _ + _ + _ + _ ≤ _; omega) ?_
      walk_at "r"
      have p1 : tl "(" = [40] := by decide +kernel
      have p2 : tl ")" = [41] := by decide +kernel
      have e : Str.empty ++ "call " ++ f ++ "(" ++ mkS (joinL (tl ", ") (us.map srX)) ++ ")" = mkS (stX sk (.call f us)) := ext_len (by simp [tl_append, tl_empty, tl_mkS, stX, p1, p2])
      rw [e]
      exact q hh Y
end
section
variable {P : Program} {w : World} {K : PySem.W.Frag} {mg : Str → Option Value} {base : Heap}
open TL
theorem sum_le {l : List Ln} {m : Nat} (h : ∀ x ∈ l, x.length ≤ m) : (l.map List.length).sum ≤ m * l.length := by
  induction l with
  | nil => simp
  | cons a l ih =>
    have h1 := h a (List.mem_cons_self ..)
    have := ih fun x mx => h x (List.mem_cons_of_mem _ mx)
    rw [List.map_cons, List.sum_cons, List.length_cons, Nat.mul_succ]
    omega
theorem hd_len {sk : Bool} {f : TF} (o : FOk f) : (hdX sk f).length ≤ 140 := by
  have w1 : (tl "def ").length = 4 := by decide +kernel
  unfold hdX
  rw [List.length_append, List.length_append, List.length_append, List.length_append]
  have := nm_len o.n
  have h2 := jn_len (ls := f.p.map (dcX sk)) (m := 29) fun l m => by
    obtain ⟨q, mq, rfl⟩ := List.mem_map.mp m
    exact dc_len (o.po q mq).1 (o.po q mq).2
  rw [List.length_map] at h2
  have := o.p4
  simp only [List.length_cons, List.length_nil]
  omega
theorem ln_len {sk : Bool} {fs : List TF} {ss : List Stm} (ok : POk fs ss) : ∀ l ∈ lnX sk fs ss, l.length ≤ 140 := fun l m => by
  rcases List.mem_append.mp m with m | m
  · obtain ⟨f, mf, m⟩ := List.mem_flatMap.mp m
    rcases List.mem_append.mp m with m | m
    · rcases List.mem_cons.mp m with rfl | m
      · exact hd_len (ok.fo f mf)
      · obtain ⟨s, ms, rfl⟩ := List.mem_map.mp m
        have := st_len (sk := sk) ((ok.fo f mf).bo s ms)
        rw [List.length_append, show (tl "  ").length = 2 from by decide +kernel]
        omega
    · rw [List.mem_singleton.mp m]
      decide +kernel
  · obtain ⟨s, ms, rfl⟩ := List.mem_map.mp m
    have := st_len (sk := sk) (ok.so s ms)
    omega
theorem fn_cnt {sk : Bool} {f : TF} (o : FOk f) : (fnX sk f).length ≤ 14 := by
  unfold fnX
  have := o.b12
  simp only [List.length_append, List.length_cons, List.length_map, List.length_nil]
  omega
theorem fns_cnt {sk : Bool} : ∀ {fs : List TF}, (∀ f ∈ fs, FOk f) → (fs.flatMap (fnX sk)).length ≤ 14 * fs.length
  | [], _ => Nat.le_refl _
  | f :: fs, h => by
    rw [List.flatMap_cons, List.length_append, List.length_cons, Nat.mul_succ]
    have := fn_cnt (sk := sk) (h f (List.mem_cons_self ..))
    have := fns_cnt (sk := sk) (fs := fs) fun x m => h x (List.mem_cons_of_mem _ m)
    omega
def slV (ls : List Ln) : List V := (ls.map mkS).map V.str
theorem slV_len (ls : List Ln) : (slV ls).length = ls.length := by unfold slV; rw [List.length_map, List.length_map]
theorem slV_app (a b : List Ln) : slV (a ++ b) = slV a ++ slV b := by unfold slV; rw [List.map_append, List.map_append]
theorem slV_one (l : Ln) : slV [l] = [.str (mkS l)] := rfl
theorem slV_at {ls : List Ln} {i : Nat} {v : V} (h : (slV ls)[i]? = some v) : ∃ l, ls[i]? = some l ∧ v = .str (mkS l) := by
  unfold slV at h
  rw [List.getElem?_map, List.getElem?_map] at h
  cases hl : ls[i]? with
  | none => rw [hl] at h; cases h
  | some l => rw [hl] at h; exact ⟨l, rfl, (Option.some.inj h).symm⟩
def pTof (K : PySem.W.Frag) (CP CF : Addr) : Sp := fun vs H Q _ => ∃ z fs ss sk, vs = [.ref z] ∧ PgF K CP CF H z (fs.map (fdY sk)) (ss.map (stY sk)) ∧ POk fs ss ∧ ∀ H1, Ex H H1 → Q (.str (mkS (txX sk fs ss))) H1
theorem ok_text_of (T : Tx K mg) : FnOk P w K mg base CX0 4 T.a_text_of T.e_text_of p_text_of (pTof K T.C_Program T.C_Function) := by
  refine T.d_text_of.F.ok sc_text_of (fun vs H Q E h => ?_) (fun cdv A outer s H vs Q E hr h => ?_)
  · obtain ⟨z, fs, ss, sk, rfl, _⟩ := h
    rfl
  obtain ⟨z, fs, ss, sk, rfl, hp, ok, q⟩ := h
  have hu := hu_of hr
  refine ⟨_, (pss_cons (ps_set (i := 1) sc_text_of.nd rfl (.inl rfl) (pe_lst pa_nil))
    (pss_cons (ps_for PassesOwn.never rfl (plK K (by exact (fldK K (pv 0) rfl))) (pg_name (i := 2) sc_text_of.nd rfl (.inl rfl)) (pss_cons (ps_set (i := 3) sc_text_of.nd rfl (.inl rfl) (pe_joinK K pe_str (pe_lc (own := [("name", 6), ("kind", 7)]) (g := gTup K 2 (gCons (gName 6) (gCons (gName 7) (gNil)))) rfl sc_text_of.nd  (plK K (by exact (fldK K (pv 2) rfl))) (blkOk_by (own := [("name", 6), ("kind", 7)]) (N := n_text_of) (sc := defScope s_text_of) (by decide +kernel)) (fun _ _ _ _ _ => (pg_tup (by rfl) (pgs_cons (pg_name (i := 6) sc_text_of.nd rfl (Or.inl rfl)) (pgs_cons (pg_name (i := 7) sc_text_of.nd rfl (Or.inl rfl)) pgs_nil)))) (fun _ _ _ _ _ => pts_nil) (fun _ _ _ _ _ => (pe_call (ok_declared_text T) (hr.mono (by omega)) (by rfl) T.d_declared_text.m T.d_declared_text.F.kp T.d_declared_text.b .nil pass0 (pa_cons (pv 6) (pa_cons (pv 7) pa_nil)))))))
    (pss_cons (ps_expr (pe_bm PySem.F.plainAttrs_list PySem.F.slot_list_append PySem.F.type_list_append mt_append (pv 1) (pa_cons (pe_joined (PJ.cons pe_str (PJ.cons (pe_fmt (by exact (fldK K (pv 2) rfl))) (PJ.cons pe_str (PJ.cons (pe_fmt (pv 3)) (PJ.cons pe_str PJ.nil)))))) pa_nil)))
    (pss_cons (ps_expr (pe_bm PySem.F.plainAttrs_list PySem.F.slot_list_extend PySem.F.type_list_extend mt_extend (pv 1) (pa_cons (pe_lc (own := [("statement", 4)]) (g := gName 4) rfl sc_text_of.nd  (plK K (by exact (fldK K (pv 2) rfl))) (blkOk_by (own := [("statement", 4)]) (N := n_text_of) (sc := defScope s_text_of) (by decide +kernel)) (fun _ _ _ _ _ => (pg_name (i := 4) sc_text_of.nd rfl (Or.inl rfl))) (fun _ _ _ _ _ => pts_nil) (fun _ _ _ _ _ => (pe_op op_add_str pe_str (pe_call (ok_statement_text T) (hr.mono (by omega)) (by rfl) T.d_statement_text.m T.d_statement_text.F.kp T.d_statement_text.b .nil pass0 (pa_cons (pv 4) pa_nil))))) pa_nil)))
    (pss_one (ps_expr (pe_bm PySem.F.plainAttrs_list PySem.F.slot_list_append PySem.F.type_list_append mt_append (pv 1) (pa_cons pe_str pa_nil))))))))
    (pss_cons (ps_expr (pe_bm PySem.F.plainAttrs_list PySem.F.slot_list_extend PySem.F.type_list_extend mt_extend (pv 1) (pa_cons (pe_lc (own := [("statement", 4)]) (g := gName 4) rfl sc_text_of.nd  (plK K (by exact (fldK K (pv 0) rfl))) (blkOk_by (own := [("statement", 4)]) (N := n_text_of) (sc := defScope s_text_of) (by decide +kernel)) (fun _ _ _ _ _ => (pg_name (i := 4) sc_text_of.nd rfl (Or.inl rfl))) (fun _ _ _ _ _ => pts_nil) (fun _ _ _ _ _ => (pe_call (ok_statement_text T) (hr.mono (by omega)) (by rfl) T.d_statement_text.m T.d_statement_text.F.kp T.d_statement_text.b .nil pass0 (pa_cons (pv 4) pa_nil)))) pa_nil)))
    (pss_one (ps_ret (pe_joinK K pe_str (pe_lc (own := [("line", 5)]) (g := gName 5) rfl sc_text_of.nd  (plK K (pv 1)) (blkOk_by (own := [("line", 5)]) (N := n_text_of) (sc := defScope s_text_of) (by decide +kernel)) (fun _ _ _ _ _ => (pg_name (i := 5) sc_text_of.nd rfl (Or.inl rfl))) (fun _ _ _ _ _ => pts_nil) (fun _ _ _ _ _ => (pe_op op_add_str (pv 5) pe_str))))))))), ?_⟩
  obtain ⟨dz, r1, r2, ws1, ws2, z1, z2, z3, z4, z5⟩ := hp.ex
  have o4 := ok.f4
  have o40 := ok.s40
  walk_at "r"
  refine new_lst (xs := []) (by simp) fun l H1 n1 e1 f1 => ?_
  walk_at "r"
  refine a_get T.c_Program T.n_Program_functions (e1 _ _ z1) (pg_fns _ _) ?_
  walk_at "r"
  refine r_L (SqL.of (e1 _ _ z2)) ?_
  have wl := z3.len
  rw [List.length_map] at wl
  refine lp_list (xs := ws1) (fun i σ h => (∃ x2 x3 x4 x5 x6 x7, σ = [some (.ref z), some (.ref l), x2, x3, x4, x5, x6, x7]) ∧ Ex H h ∧ h l = some (.lst (slV ((fs.take i).flatMap (fnX sk))))) ⟨⟨_, _, _, _, _, _, rfl⟩, e1, f1⟩ (fun i σ h _ g => SqL.of (g.2.1 _ _ z2)) ?_ ?_
  · rintro i v σ h hi ⟨⟨x2, x3, x4, x5, x6, x7, rfl⟩, X, fl⟩
    obtain ⟨a, f', rfl, hf', hA⟩ := z3.get hi
    rw [List.getElem?_map] at hf'
    obtain ⟨f, hf, rfl⟩ := Option.map_eq_some_iff.mp hf'
    have mf := List.mem_of_getElem? hf
    have o := ok.fo f mf
    have il := at_lt hf
    obtain ⟨dx, nv, q1, q2, o1, o2, o3, o4'⟩ := hA.ex
    obtain ⟨w1, g1, g2⟩ := o3.ex
    obtain ⟨w2, g3, g4⟩ := o4'.ex
    cases dp_str o2.1
    have lw1 := dpa_len g2
    have lw2 := dpa_len g4
    have lp : w1.length = f.p.length := by rw [lw1]; exact List.length_map _
    have lb : w2.length = f.b.length := by rw [lw2]; exact List.length_map _
    have op4 := o.p4
    have ob12 := o.b12
    walk_at "r"
    refine ⟨⟨_, rfl⟩, ?_⟩
    walk_at "r"
    refine a_get T.c_Function T.n_Function_params (X _ _ o1) (fn_params _ _ _) ?_
    refine c_L (SqL.of (X _ _ g1)) ?_
    refine cp_list (xs := w1) (fun d j hh => Ex h hh ∧ hh d = some (.lst (slV ((f.p.take j).map (dcX sk))))) (fun d n => ⟨Ex.new n, upd_same⟩) (fun d j hh _ _ y => SqL.of (y.1 _ _ (X _ _ g1))) ?_ ?_
    · rintro d j u hh nd hj ⟨Y, fd⟩
      obtain ⟨dt, hd', dx'⟩ := dpa_at g2 hj
      have hd'' : (f.p.map (pdY sk))[j]? = some dt := hd'
      rw [List.getElem?_map] at hd''
      obtain ⟨qq, hq, rfl⟩ := Option.map_eq_some_iff.mp hd''
      have mq := List.mem_of_getElem? hq
      have dq : Dp K H u (.tuple [.str qq.1, kdY sk qq.2]) := by
        cases sk <;> exact dx'
      obtain ⟨p2, u1, u2, rfl, hp2, m1, m2⟩ := dp_two dq
      cases dp_str m1
      refine w_gtup (xs := [.str qq.1, u2]) (ex_st hp2 (X.trans Y)) rfl ?_
      walk_at "r"
      refine ⟨rfl, ?_⟩
      walk_at "r"
      refine ⟨qq.1, u2, sk, qq.2, rfl, dp_ex (X.trans Y) m2, (o.po qq mq).1, (o.po qq mq).2, fun H2 e2 => ?_⟩
      have jl := at_lt hq
      refine ⟨_, e2 _ _ fd, sz_lt (by rw [slV_len, List.length_map, List.length_take]; omega), (Y.trans e2).mut nd, ?_⟩
      rw [upd_same, take_snoc hq, List.map_append, slV_app]
      rfl
    rintro d hh nd ⟨Y, fd⟩
    rw [lp, List.take_length] at fd
    have e0 : (tl ", ").length = 2 := by rw [sCom]; rfl
    have jl := jn_len (ls := f.p.map (dcX sk)) (m := 29) fun l m => by
      obtain ⟨qq, mq, rfl⟩ := List.mem_map.mp m
      exact dc_len (o.po qq mq).1 (o.po qq mq).2
    rw [List.length_map] at jl
    refine a_join (ls := f.p.map (dcX sk)) (.inl (SqL.of fd)) (by rw [List.length_map, e0]; omega) ?_
    walk_at "r"
    have fl2 := Y _ _ fl
    refine ⟨a_ty fl2, ?_⟩
    walk_at "r"
    have lf := nm_len o.n
    have w1' : (tl "def ").length = 4 := by decide +kernel
    have p1' : (tl "(").length = 1 := by decide +kernel
    have p2' : (tl ")").length = 1 := by decide +kernel
    have p1 : tl "(" = [40] := by decide +kernel
    have p2 : tl ")" = [41] := by decide +kernel
    refine a_js (by rw [tl_empty]; show 0 + _ ≤ _; omega) ?_
    walk_at "r"
    refine a_get T.c_Function T.n_Function_name (Y _ _ (X _ _ o1)) (fn_name _ _ _) ?_
    refine a_fmtS (by omega) ?_
    refine a_js (by rw [tl_append, List.length_append, tl_empty]; show 0 + _ + _ ≤ _; omega) ?_
    walk_at "r"
    refine a_js (by rw [tl_append, tl_append, List.length_append, List.length_append, tl_empty]; show 0 + _ + _ + _ ≤ _; omega) ?_
    walk_at "r"
    refine a_fmtS (by rw [tl_mkS]; omega) ?_
    refine a_js (by rw [tl_append, tl_append, tl_append, List.length_append, List.length_append, List.length_append, tl_empty, tl_mkS]; show 0 + _ + _ + _ + _ ≤ _; omega) ?_
    walk_at "r"
    refine a_js (by rw [tl_append, tl_append, tl_append, tl_append, List.length_append, List.length_append, List.length_append, List.length_append, tl_empty, tl_mkS]; show 0 + _ + _ + _ + _ + _ ≤ _; omega) ?_
    walk_at "r"
    have e : Str.empty ++ "def " ++ f.n ++ "(" ++ mkS (joinL (tl ", ") (f.p.map (dcX sk))) ++ ")" = mkS (hdX sk f) := ext_len (by simp [tl_append, tl_empty, tl_mkS, hdX, p1, p2])
    rw [e]
    have cnt := fns_cnt (sk := sk) (fs := fs.take i) fun f m => ok.fo f (List.mem_of_mem_take m)
    rw [List.length_take] at cnt
    have lc : (slV ((fs.take i).flatMap (fnX sk))).length ≤ 100 := by
      rw [slV_len]
      omega
    refine a_app fl2 (by omega) ?_
    have K2 : Ex H (upd hh l (.lst (slV ((fs.take i).flatMap (fnX sk)) ++ [.str (mkS (hdX sk f))]))) := (X.trans Y).mut n1
    have f2' : upd hh l (.lst (slV ((fs.take i).flatMap (fnX sk)) ++ [.str (mkS (hdX sk f))])) l = some (.lst (slV ((fs.take i).flatMap (fnX sk)) ++ [.str (mkS (hdX sk f))])) := upd_same
    generalize upd hh l (.lst (slV ((fs.take i).flatMap (fnX sk)) ++ [.str (mkS (hdX sk f))])) = h2 at K2 f2' ⊢
    walk_at "r"
    refine ⟨a_ty f2', ?_⟩
    walk_at "r"
    refine a_get T.c_Function T.n_Function_body (K2 _ _ o1) (fn_body _ _ _) ?_
    refine c_L (SqL.of (K2 _ _ g3)) ?_
    refine cp_list (xs := w2) (fun d j hh => Ex h2 hh ∧ hh d = some (.lst (slV ((f.b.take j).map fun s => tl "  " ++ stX sk s)))) (fun d n => ⟨Ex.new n, upd_same⟩) (fun d j hh _ _ y => SqL.of (y.1 _ _ (K2 _ _ g3))) ?_ ?_
    · rintro d j u hh2 nd2 hj ⟨Y2, fd2⟩
      obtain ⟨dt, hd', dx'⟩ := dpa_at g4 hj
      have hd'' : (f.b.map (stY sk))[j]? = some dt := hd'
      rw [List.getElem?_map] at hd''
      obtain ⟨s, hs, rfl⟩ := Option.map_eq_some_iff.mp hd''
      have ms := List.mem_of_getElem? hs
      have jl2 := at_lt hs
      walk_at "r"
      refine ⟨rfl, ?_⟩
      walk_at "r"
      refine ⟨u, sk, s, rfl, dp_ex (K2.trans Y2) dx', o.bo s ms, fun H3 e3 => ?_⟩
      have ls := st_len (sk := sk) (o.bo s ms)
      refine ⟨"  ", mkS (stX sk s), rfl, rfl, by rw [len_tl, len_tl, tl_mkS, show (tl "  ").length = 2 from by decide +kernel]; exact lt_line (by omega), ?_⟩
      rw [mkS_appL]
      refine ⟨_, e3 _ _ fd2, sz_lt (by rw [slV_len, List.length_map, List.length_take]; omega), (Y2.trans e3).mut nd2, ?_⟩
      rw [upd_same, take_snoc hs, List.map_append, slV_app]
      rfl
    rintro d2 h3 nd2 ⟨Y2, fd2⟩
    rw [lb, List.take_length] at fd2
    walk_at "r"
    refine a_extend (Y2 _ _ f2') fd2 (by rw [List.length_append, slV_len, slV_len, List.length_map]; show _ + 1 + _ ≤ _; omega) ?_
    have K3 := (K2.trans Y2).mut (o := .lst (slV ((fs.take i).flatMap (fnX sk)) ++ [.str (mkS (hdX sk f))] ++ slV (f.b.map fun s => tl "  " ++ stX sk s))) n1
    have f3' : upd h3 l (.lst (slV ((fs.take i).flatMap (fnX sk)) ++ [.str (mkS (hdX sk f))] ++ slV (f.b.map fun s => tl "  " ++ stX sk s))) l = some (.lst (slV ((fs.take i).flatMap (fnX sk)) ++ [.str (mkS (hdX sk f))] ++ slV (f.b.map fun s => tl "  " ++ stX sk s))) := upd_same
    generalize upd h3 l (.lst (slV ((fs.take i).flatMap (fnX sk)) ++ [.str (mkS (hdX sk f))] ++ slV (f.b.map fun s => tl "  " ++ stX sk s))) = h4 at K3 f3' ⊢
    walk_at "r"
    refine ⟨a_ty f3', ?_⟩
    walk_at "r"
    refine a_app f3' (by rw [List.length_append, List.length_append, slV_len (f.b.map fun s => tl "  " ++ stX sk s), List.length_map]; show _ + 1 + _ < _; omega) ?_
    refine ⟨⟨_, _, _, _, _, _, rfl⟩, K3.mut n1, ?_⟩
    rw [upd_same, take_snoc hf, List.flatMap_append, slV_app]
    congr 2
    rw [List.append_assoc, List.append_assoc]
    congr 1
    rw [List.flatMap_cons, List.flatMap_nil, List.append_nil]
    unfold fnX
    rw [slV_app, slV_one, mkS_tl]
    rfl
  · rintro σ h ⟨⟨x2, x3, x4, x5, x6, x7, rfl⟩, X, fl⟩
    rw [wl, List.take_length] at fl
    have cnt := fns_cnt (sk := sk) (fs := fs) ok.fo
    have l5 : ws2.length = ss.length := by rw [dpa_len z5, List.length_map]
    walk_at "r"
    refine ⟨a_ty fl, ?_⟩
    walk_at "r"
    refine a_get T.c_Program T.n_Program_statements (X _ _ z1) (pg_sts _ _) ?_
    refine c_L (SqL.of (X _ _ z4)) ?_
    refine cp_list (xs := ws2) (fun d j hh => Ex h hh ∧ hh d = some (.lst (slV ((ss.take j).map (stX sk))))) (fun d n => ⟨Ex.new n, upd_same⟩) (fun d j hh _ _ y => SqL.of (y.1 _ _ (X _ _ z4))) ?_ ?_
    · rintro d j u hh nd hj ⟨Y, fd⟩
      obtain ⟨dt, hd', dx'⟩ := dpa_at z5 hj
      rw [List.getElem?_map] at hd'
      obtain ⟨s, hs, rfl⟩ := Option.map_eq_some_iff.mp hd'
      have ms := List.mem_of_getElem? hs
      have jl2 := at_lt hs
      walk_at "r"
      refine ⟨rfl, ?_⟩
      walk_at "r"
      refine ⟨u, sk, s, rfl, dp_ex (X.trans Y) dx', ok.so s ms, fun H3 e3 => ?_⟩
      refine ⟨_, e3 _ _ fd, sz_lt (by rw [slV_len, List.length_map, List.length_take]; omega), (Y.trans e3).mut nd, ?_⟩
      rw [upd_same, take_snoc hs, List.map_append, slV_app]
      rfl
    rintro d h3 nd ⟨Y, fd⟩
    rw [l5, List.take_length] at fd
    walk_at "r"
    refine a_extend (Y _ _ fl) fd (by rw [slV_len, slV_len, List.length_map]; omega) ?_
    rw [← slV_app]
    have K3 := (X.trans Y).mut (o := .lst (slV (fs.flatMap (fnX sk) ++ ss.map (stX sk)))) n1
    have f3' : upd h3 l (.lst (slV (fs.flatMap (fnX sk) ++ ss.map (stX sk)))) l = some (.lst (slV (lnX sk fs ss))) := upd_same
    generalize upd h3 l (.lst (slV (fs.flatMap (fnX sk) ++ ss.map (stX sk)))) = h4 at K3 f3' ⊢
    have lcnt : (lnX sk fs ss).length ≤ 100 := by
      unfold lnX
      rw [List.length_append, List.length_map]
      omega
    walk_at "r"
    refine ⟨⟨_, rfl⟩, ?_⟩
    walk_at "r"
    refine c_L (SqL.of f3') ?_
    refine cp_list (xs := slV (lnX sk fs ss)) (fun d j hh => Ex h4 hh ∧ hh d = some (.lst (slV (((lnX sk fs ss).take j).map (· ++ [10]))))) (fun d n => ⟨Ex.new n, upd_same⟩) (fun d j hh _ _ y => SqL.of (y.1 _ _ f3')) ?_ ?_
    · rintro d j u hh nd2 hj ⟨Y2, fd2⟩
      obtain ⟨ln, hln, rfl⟩ := slV_at hj
      have jl2 := at_lt hln
      have l140 := ln_len ok _ (List.mem_of_getElem? hln)
      walk_at "r"
      refine ⟨rfl, ?_⟩
      walk_at "r"
      have n10 : tl "\n" = [10] := by decide +kernel
      refine ⟨mkS ln, "\n", rfl, rfl, by rw [len_tl, len_tl, tl_mkS, n10]; exact lt_line (by show _ + 1 ≤ _; omega), ?_⟩
      rw [mkS_appR, n10]
      refine ⟨_, fd2, sz_lt (by rw [slV_len, List.length_map, List.length_take]; omega), Y2.mut nd2, ?_⟩
      rw [upd_same, take_snoc hln, List.map_append, slV_app]
      rfl
    rintro d2 h5 nd2 ⟨Y2, fd2⟩
    rw [slV_len, List.take_length] at fd2
    have sl := sum_le (l := (lnX sk fs ss).map (· ++ [10])) (m := 141) fun x m => by
      obtain ⟨ln, mln, rfl⟩ := List.mem_map.mp m
      have := ln_len ok _ mln
      rw [List.length_append]
      show _ + 1 ≤ _
      omega
    rw [List.length_map] at sl
    refine a_join (ls := (lnX sk fs ss).map (· ++ [10])) (.inl (SqL.of fd2)) (by rw [List.length_map, show (tl "").length = 0 from rfl]; omega) ?_
    have je : ∀ l : List Ln, joinL (tl "") l = l.flatten := by
      intro l
      induction l with
      | nil => rfl
      | cons a l ih =>
        cases l with
        | nil => show a = _; simp
        | cons b l =>
          show a ++ ([] ++ joinL (tl "") (b :: l)) = _
          rw [ih]
          rfl
    rw [je]
    have := q h5 (K3.trans Y2)
    unfold txX at this
    rw [← List.flatMap_def] at *
    exact this
end
section
variable {P : Program} {w : World} {K : PySem.W.Frag} {mg : Str → Option Value} {base : Heap}
open TL
theorem isi_tu {K : PySem.W.Frag} {H : Hp} {Q : VK} {p : Addr} {xs : List V} (h : SqT K H p xs) (q : Q (.bl true) H) : rIsi K [.ref p, .ty "tuple"] H Q := by
  have ty : TyX K H (.ref p) (.type "tuple") := by
    rcases h with (h | ⟨o, h⟩) | h0
    · exact .base (.tup h)
    · exact .fTuple h
    · obtain ⟨ob, dd, sl, h, hc, _⟩ := h0
      exact .kTuple h (by first | exact hc | rfl)
  exact ⟨.ref p, .ty "tuple", .type "tuple", .type "tuple", true, rfl, .ty "tuple", ty, if_pos (beq_self_eq_true _), q⟩
theorem isi_in {K : PySem.W.Frag} {H : Hp} {Q : VK} {i : Int} (q : Q (.bl false) H) : rIsi K [.int i, .ty "tuple"] H Q := ⟨.int i, .ty "tuple", .type "int", .type "tuple", false, rfl, .ty "tuple", .base (.int i), by rfl, q⟩
theorem cat_ok {a b : Str} (h : (tl a).length + (tl b).length ≤ 50000) : a.length + b.length ≤ sizeLine := by
  rw [len_tl, len_tl]
  exact lt_line (by omega)
def pShT (K : PySem.W.Frag) : Sp := fun vs H Q _ => ∃ v sk T, vs = [v] ∧ Dp K H v (kdY sk T) ∧ tyO T ∧ ∀ H1, Ex H H1 → Q (.str (mkS (kdX sk T))) H1
theorem ok__law_show_type (T : Tx K mg) : FnOk P w K mg base CX0 1 T.a__law_show_type T.e__law_show_type p__law_show_type (pShT K) := by
  refine T.d__law_show_type.F.ok sc__law_show_type (fun vs H Q E h => ?_) (fun cdv A outer s H vs Q E hr h => ?_)
  · obtain ⟨v, sk, U, rfl, _⟩ := h
    rfl
  obtain ⟨v, sk, U, rfl, dv, tU, q⟩ := h
  have hu := hu_of hr
  refine ⟨_, (pss_cons (ps_if (pt_val (pe_callB (isiK K) (by rfl) T.b_isinstance (by decide +kernel) (pa_cons (pv 0) (pa_cons (pe_bltn (v := .ty "tuple") (by rfl) T.b_tuple (by decide +kernel) rfl) pa_nil)))) (pss_one (ps_ret (pe_joinK K pe_str (pv 0)))) pss_nil)
    (pss_one (ps_ret (pe_callTy strK (by rfl) T.b_str (by decide +kernel) (pa_cons (pv 0) pa_nil))))), ?_⟩
  walk_at "r"
  have h1 := tU.1
  have h2 := tU.2
  cases sk with
  | false =>
    obtain ⟨p, rfl, hp⟩ := dp_ruT dv
    refine isi_tu hp ?_
    walk_at "r"
    have := (rs_len U).1
    refine ⟨⟨_, rfl⟩, ?_⟩
    walk_at "r"
    refine a_join (ls := U.map fun r : R => tl r.s) (.inr (by rw [← tv_mk]; exact hp)) (by rw [List.length_map, show (tl " ").length = 1 from by decide +kernel]; omega) ?_
    have e0 : tl " " = [32] := by decide +kernel
    rw [e0]
    exact q H (Ex.refl _)
  | true =>
    cases dp_int (show Dp K H v (.int ((U.length : Int) - 1)) from dv)
    refine isi_in ?_
    walk_at "r"
    rw [show (U.length : Int) - 1 = ((U.length - 1 : Nat) : Int) from by omega]
    refine a_strN (by omega) ?_
    exact q H (Ex.refl _)
def pShS (K : PySem.W.Frag) : Sp := fun vs H Q _ => ∃ v s, vs = [v] ∧ Dp K H v (sD s) ∧ sO s ∧ ∀ H1, Ex H H1 → Q (.str (mkS (srX s))) H1
theorem ok__law_show_source (T : Tx K mg) : FnOk P w K mg base CX0 1 T.a__law_show_source T.e__law_show_source p__law_show_source (pShS K) := by
  refine T.d__law_show_source.F.ok sc__law_show_source (fun vs H Q E h => ?_) (fun cdv A outer s H vs Q E hr h => ?_)
  · obtain ⟨v, s, rfl, _⟩ := h
    rfl
  obtain ⟨v, s, rfl, dv, so, q⟩ := h
  refine ⟨_, (pss_cons (ps_if (pt_cmpR op_eq (pe_ix (ixT K) (pv 0) pe_int (fun _ _ => rfl)) pe_str (nomark _)) (pss_one (ps_ret (pe_callTy strK (by rfl) T.b_str (by decide +kernel) (pa_cons (pe_ix (ixT K) (pv 0) pe_int (fun _ _ => rfl)) pa_nil)))) pss_nil)
    (pss_cons (ps_if (pt_cmpR op_eq (pe_ix (ixT K) (pv 0) pe_int (fun _ _ => rfl)) pe_str (nomark _)) (pss_one (ps_ret pe_str)) pss_nil)
    (pss_one (ps_ret (pe_op op_add_str (pe_op op_add_str (pe_slice sl_str pe_str po_none (po_some (pe_callTy k_int (by rfl) T.b_int (by decide +kernel) (pa_cons (pe_cmpR op_eq (pe_ix (ixT K) (pv 0) pe_int (fun _ _ => rfl)) pe_str (nomark _)) pa_nil)))) (pe_op op_mulS pe_str (pe_ix (ixT K) (pe_ix (ixT K) (pv 0) pe_int (fun _ _ => rfl)) pe_int (fun _ _ => rfl)))) (pe_ix (ixT K) (pe_ix (ixT K) (pv 0) pe_int (fun _ _ => rfl)) pe_int (fun _ _ => rfl))))))), ?_⟩
  cases s with
  | num n =>
    obtain ⟨p, y1, y2, rfl, hp, k1, k2⟩ := dp_two dv
    cases dp_str k1
    cases dp_int k2
    obtain ⟨n0, n1⟩ := so
    walk_at "r"
    refine a_ixT (v := .str "number") hp (atI_nat (j := 0) rfl) ?_
    walk_at "r"
    refine ite2 (fun _ => ?_) (fun y => absurd y (by decide +kernel))
    walk_at "r"
    refine a_ixT (v := .int n) hp (atI_nat (j := 1) rfl) ?_
    rw [show n = ((n.toNat : Nat) : Int) from by omega]
    refine a_strN (by omega) ?_
    exact q H (Ex.refl _)
  | null =>
    obtain ⟨p, xs, rfl, hp, hd⟩ := dp_tup dv
    cases hd with
    | cons h1 t =>
      cases t
      cases dp_str h1
      walk_at "r"
      refine a_ixT (v := .str "null") hp (atI_nat (j := 0) rfl) ?_
      walk_at "r"
      refine ite2 (fun y => absurd y (by decide +kernel)) (fun _ => ?_)
      walk_at "r"
      refine a_ixT (v := .str "null") hp (atI_nat (j := 0) rfl) ?_
      walk_at "r"
      refine ite2 (fun _ => ?_) (fun y => absurd y (by decide +kernel))
      walk_at "r"
      have := q H (Ex.refl _)
      rw [show mkS (srX .null) = "null" from mkS_tl _] at this
      exact this
  | val x k =>
    obtain ⟨p, y1, y2, rfl, hp, k1, k2⟩ := dp_two dv
    cases dp_str k1
    obtain ⟨p2, z1, z2, rfl, hp2, m1, m2⟩ := dp_two k2
    cases dp_str m1
    cases dp_int m2
    have lx := nm_len so.1
    have k5 := so.2
    walk_at "r"
    refine a_ixT (v := .str "value") hp (atI_nat (j := 0) rfl) ?_
    walk_at "r"
    refine ite2 (fun y => absurd y (by decide +kernel)) (fun _ => ?_)
    walk_at "r"
    refine a_ixT (v := .str "value") hp (atI_nat (j := 0) rfl) ?_
    walk_at "r"
    refine ite2 (fun y => absurd y (by decide +kernel)) (fun _ => ?_)
    walk_at "r"
    refine a_ixT (v := .str "value") hp (atI_nat (j := 0) rfl) ?_
    walk_at "r"
    rw [show (decide (("value" : Str) = "address")) = false from by decide +kernel]
    refine a_cutS (z := "&") (r := []) (by decide +kernel) (by decide +kernel) ?_
    walk_at "r"
    refine a_ixT (v := .ref p2) hp (atI_nat (j := 1) rfl) ?_
    walk_at "r"
    refine a_ixT (v := .int (k : Nat)) hp2 (atI_nat (j := 1) rfl) ?_
    walk_at "r"
    refine a_mulS (n := k) (by omega) ?_
    walk_at "r"
    refine ⟨_, _, rfl, rfl, cat_ok (by rw [tl_mkS, tl_mkS, List.length_replicate]; show 0 + _ ≤ _; omega), ?_⟩
    walk_at "r"
    refine a_ixT (v := .ref p2) hp (atI_nat (j := 1) rfl) ?_
    walk_at "r"
    refine a_ixT (v := .str x) hp2 (atI_nat (j := 0) rfl) ?_
    refine ⟨_, _, rfl, rfl, cat_ok (by rw [tl_append, List.length_append, tl_mkS, tl_mkS, List.length_replicate]; show 0 + _ + _ ≤ _; omega), ?_⟩
    have e : mkS [] ++ mkS (List.replicate k 42) ++ x = mkS (srX (.val x k)) := ext_len (by rw [tl_append, tl_append, tl_mkS, tl_mkS]; rfl)
    rw [e]
    exact q H (Ex.refl _)
  | adr x k =>
    obtain ⟨p, y1, y2, rfl, hp, k1, k2⟩ := dp_two dv
    cases dp_str k1
    obtain ⟨p2, z1, z2, rfl, hp2, m1, m2⟩ := dp_two k2
    cases dp_str m1
    cases dp_int m2
    have lx := nm_len so.1
    have k5 := so.2
    walk_at "r"
    refine a_ixT (v := .str "address") hp (atI_nat (j := 0) rfl) ?_
    walk_at "r"
    refine ite2 (fun y => absurd y (by decide +kernel)) (fun _ => ?_)
    walk_at "r"
    refine a_ixT (v := .str "address") hp (atI_nat (j := 0) rfl) ?_
    walk_at "r"
    refine ite2 (fun y => absurd y (by decide +kernel)) (fun _ => ?_)
    walk_at "r"
    refine a_ixT (v := .str "address") hp (atI_nat (j := 0) rfl) ?_
    walk_at "r"
    rw [show (decide (("address" : Str) = "address")) = true from by decide +kernel]
    refine a_cutS (z := "&") (r := [38]) (by decide +kernel) (by decide +kernel) ?_
    walk_at "r"
    refine a_ixT (v := .ref p2) hp (atI_nat (j := 1) rfl) ?_
    walk_at "r"
    refine a_ixT (v := .int (k : Nat)) hp2 (atI_nat (j := 1) rfl) ?_
    walk_at "r"
    refine a_mulS (n := k) (by omega) ?_
    walk_at "r"
    refine ⟨_, _, rfl, rfl, cat_ok (by rw [tl_mkS, tl_mkS, List.length_replicate]; show 1 + _ ≤ _; omega), ?_⟩
    walk_at "r"
    refine a_ixT (v := .ref p2) hp (atI_nat (j := 1) rfl) ?_
    walk_at "r"
    refine a_ixT (v := .str x) hp2 (atI_nat (j := 0) rfl) ?_
    refine ⟨_, _, rfl, rfl, cat_ok (by rw [tl_append, List.length_append, tl_mkS, tl_mkS, List.length_replicate]; show 1 + _ + _ ≤ _; omega), ?_⟩
    have e : mkS [38] ++ mkS (List.replicate k 42) ++ x = mkS (srX (.adr x k)) := ext_len (by rw [tl_append, tl_append, tl_mkS, tl_mkS]; rfl)
    rw [e]
    exact q H (Ex.refl _)
end
section
variable {P : Program} {w : World} {K : PySem.W.Frag} {mg : Str → Option Value} {base : Heap}
open TL
def pShw (K : PySem.W.Frag) : Sp := fun vs H Q _ => ∃ v sk s, vs = [v] ∧ Dp K H v (stY sk s) ∧ stO s ∧ ∀ H1, Ex H H1 → Q (.str (mkS (stX sk s))) H1
theorem ok__law_show (T : Tx K mg) : FnOk P w K mg base CX0 2 T.a__law_show T.e__law_show p__law_show (pShw K) := by
  refine T.d__law_show.F.ok sc__law_show (fun vs H Q E h => ?_) (fun cdv A outer s H vs Q E hr h => ?_)
  · obtain ⟨v, sk, s, rfl, _⟩ := h
    rfl
  obtain ⟨v, sk, s0, rfl, dv, so, q⟩ := h
  have hu := hu_of hr
  refine ⟨_, (pss_cons (ps_if (pt_cmpR op_eq (pe_ix (ixT K) (pv 0) pe_int (fun _ _ => rfl)) pe_str (nomark _)) (pss_one (ps_ret (pe_op op_add_str (pe_op op_add_str (pe_op op_add_str (pe_op op_add_str (pe_op op_add_str pe_str (pe_ix (ixT K) (pv 0) pe_int (fun _ _ => rfl))) pe_str) (pe_call (ok__law_show_type T) (hr.mono (by omega)) (by rfl) T.d__law_show_type.m T.d__law_show_type.F.kp T.d__law_show_type.b .nil pass0 (pa_cons (pe_ix (ixT K) (pv 0) pe_int (fun _ _ => rfl)) pa_nil))) pe_str) (pe_call (ok__law_show_source T) (hr.mono (by omega)) (by rfl) T.d__law_show_source.m T.d__law_show_source.F.kp T.d__law_show_source.b .nil pass0 (pa_cons (pe_ix (ixT K) (pv 0) pe_int (fun _ _ => rfl)) pa_nil))))) pss_nil)
    (pss_cons (ps_if (pt_cmpR op_eq (pe_ix (ixT K) (pv 0) pe_int (fun _ _ => rfl)) pe_str (nomark _)) (pss_one (ps_ret (pe_op op_add_str (pe_op op_add_str (pe_op op_add_str (pe_op op_add_str pe_str (pe_op op_mulS pe_str (pe_ix (ixT K) (pe_ix (ixT K) (pv 0) pe_int (fun _ _ => rfl)) pe_int (fun _ _ => rfl)))) (pe_ix (ixT K) (pe_ix (ixT K) (pv 0) pe_int (fun _ _ => rfl)) pe_int (fun _ _ => rfl))) pe_str) (pe_call (ok__law_show_source T) (hr.mono (by omega)) (by rfl) T.d__law_show_source.m T.d__law_show_source.F.kp T.d__law_show_source.b .nil pass0 (pa_cons (pe_ix (ixT K) (pv 0) pe_int (fun _ _ => rfl)) pa_nil))))) pss_nil)
    (pss_one (ps_ret (pe_op op_add_str (pe_op op_add_str (pe_op op_add_str (pe_op op_add_str pe_str (pe_ix (ixT K) (pv 0) pe_int (fun _ _ => rfl))) pe_str) (pe_joinK K pe_str (pe_lc (own := [("source", 1)]) (g := gName 1) rfl sc__law_show.nd  (plK K (pe_ix (ixT K) (pv 0) pe_int (fun _ _ => rfl))) (blkOk_by (own := [("source", 1)]) (N := n__law_show) (sc := defScope s__law_show) (by decide +kernel)) (fun _ _ _ _ _ => (pg_name (i := 1) sc__law_show.nd rfl (Or.inl rfl))) (fun _ _ _ _ _ => pts_nil) (fun _ _ _ _ _ => (pe_call (ok__law_show_source T) (hr.mono (by omega)) (by rfl) T.d__law_show_source.m T.d__law_show_source.F.kp T.d__law_show_source.b .nil pass0 (pa_cons (pv 1) pa_nil)))))) pe_str))))), ?_⟩
  have w1 : (tl "let ").length = 4 := by decide +kernel
  have w2 : (tl "put ").length = 4 := by decide +kernel
  have w3 : (tl "call ").length = 5 := by decide +kernel
  have w4 : (tl " = ").length = 3 := by decide +kernel
  have w5 : (tl " : ").length = 3 := by decide +kernel
  have o1 : (tl "(").length = 1 := by decide +kernel
  have o2 : (tl ")").length = 1 := by decide +kernel
  have p1 : tl "(" = [40] := by decide +kernel
  have p2 : tl ")" = [41] := by decide +kernel
  cases s0 with
  | lt x U s =>
    obtain ⟨nx, tU, os⟩ := so
    have lx := nm_len nx
    have lk := kd_len (sk := sk) tU
    have lr := sr_len os
    have dv' : Dp K H v (.tuple [.str "let", .str x, kdY sk U, sD s]) := by
      cases sk <;> exact dv
    obtain ⟨p, y1, y2, y3, y4, rfl, hp, k1, k2, k3, k4⟩ := dp_fou dv'
    cases dp_str k1
    cases dp_str k2
    walk_at "r"
    refine a_ixT (v := .str "let") hp (atI_nat (j := 0) rfl) ?_
    walk_at "r"
    refine ite2 (fun _ => ?_) (fun y => absurd y (by decide +kernel))
    walk_at "r"
    refine a_ixT (v := .str x) hp (atI_nat (j := 1) rfl) ?_
    refine ⟨_, _, rfl, rfl, cat_ok (by omega), ?_⟩
    walk_at "r"
    refine ⟨_, _, rfl, rfl, cat_ok (by rw [tl_append, List.length_append]; omega), ?_⟩
    walk_at "r"
    refine a_ixT (v := y3) hp (atI_nat (j := 2) rfl) ?_
    walk_at "r"
    refine ⟨y3, sk, U, rfl, k3, tU, fun H1 e1 => ?_⟩
    refine ⟨_, _, rfl, rfl, cat_ok (by rw [tl_append, tl_append, List.length_append, List.length_append, tl_mkS]; omega), ?_⟩
    walk_at "r"
    refine ⟨_, _, rfl, rfl, cat_ok (by rw [tl_append, tl_append, tl_append, List.length_append, List.length_append, List.length_append, tl_mkS]; omega), ?_⟩
    walk_at "r"
    refine a_ixT (v := y4) (ex_st hp e1) (atI_nat (j := 3) rfl) ?_
    walk_at "r"
    refine ⟨y4, s, rfl, dp_ex e1 k4, os, fun H2 e2 => ?_⟩
    refine ⟨_, _, rfl, rfl, cat_ok (by rw [tl_append, tl_append, tl_append, tl_append, List.length_append, List.length_append, List.length_append, List.length_append, tl_mkS, tl_mkS]; omega), ?_⟩
    have e : "let " ++ x ++ " : " ++ mkS (kdX sk U) ++ " = " ++ mkS (srX s) = mkS (stX sk (.lt x U s)) := ext_len (by simp [tl_append, tl_mkS, stX, dcX])
    rw [e]
    exact q H2 (e1.trans e2)
  | put x k s =>
    obtain ⟨nx, k5, os⟩ := so
    have lx := nm_len nx
    have lr := sr_len os
    have dv' : Dp K H v (.tuple [.str "put", plD x k, sD s]) := by
      cases sk <;> exact dv
    obtain ⟨p, y1, y2, y3, rfl, hp, k1, k2, k3⟩ := dp_thr dv'
    cases dp_str k1
    obtain ⟨p2', z1, z2, rfl, hp2, m1, m2⟩ := dp_two k2
    cases dp_str m1
    cases dp_int m2
    walk_at "r"
    refine a_ixT (v := .str "put") hp (atI_nat (j := 0) rfl) ?_
    walk_at "r"
    refine ite2 (fun y => absurd y (by decide +kernel)) (fun _ => ?_)
    walk_at "r"
    refine a_ixT (v := .str "put") hp (atI_nat (j := 0) rfl) ?_
    walk_at "r"
    refine ite2 (fun _ => ?_) (fun y => absurd y (by decide +kernel))
    walk_at "r"
    refine a_ixT (v := .ref p2') hp (atI_nat (j := 1) rfl) ?_
    walk_at "r"
    refine a_ixT (v := .int (k : Nat)) hp2 (atI_nat (j := 1) rfl) ?_
    walk_at "r"
    refine a_mulS (n := k) (by omega) ?_
    refine ⟨_, _, rfl, rfl, cat_ok (by rw [tl_mkS, List.length_replicate]; omega), ?_⟩
    walk_at "r"
    refine a_ixT (v := .ref p2') hp (atI_nat (j := 1) rfl) ?_
    walk_at "r"
    refine a_ixT (v := .str x) hp2 (atI_nat (j := 0) rfl) ?_
    refine ⟨_, _, rfl, rfl, cat_ok (by rw [tl_append, List.length_append, tl_mkS, List.length_replicate]; omega), ?_⟩
    walk_at "r"
    refine ⟨_, _, rfl, rfl, cat_ok (by rw [tl_append, tl_append, List.length_append, List.length_append, tl_mkS, List.length_replicate]; omega), ?_⟩
    walk_at "r"
    refine a_ixT (v := y3) hp (atI_nat (j := 2) rfl) ?_
    walk_at "r"
    refine ⟨y3, s, rfl, k3, os, fun H2 e2 => ?_⟩
    refine ⟨_, _, rfl, rfl, cat_ok (by rw [tl_append, tl_append, tl_append, List.length_append, List.length_append, List.length_append, tl_mkS, tl_mkS, List.length_replicate]; omega), ?_⟩
    have e : "put " ++ mkS (List.replicate k 42) ++ x ++ " = " ++ mkS (srX s) = mkS (stX sk (.put x k s)) := ext_len (by simp [tl_append, tl_mkS, stX, plX])
    rw [e]
    exact q H2 e2
  | call f us =>
    obtain ⟨nf, l4, os⟩ := so
    have lf := nm_len nf
    have ls := sts_len os l4
    have dv' : Dp K H v (.tuple [.str "call", .str f, .list (us.map sD)]) := by
      cases sk <;> exact dv
    obtain ⟨p, y1, y2, y3, rfl, hp, k1, k2, k3⟩ := dp_thr dv'
    cases dp_str k1
    cases dp_str k2
    obtain ⟨p2', xs, rfl, hl, hd⟩ := dp_lst k3
    have lx := dpa_len hd
    rw [List.length_map] at lx
    walk_at "r"
    refine a_ixT (v := .str "call") hp (atI_nat (j := 0) rfl) ?_
    walk_at "r"
    refine ite2 (fun y => absurd y (by decide +kernel)) (fun _ => ?_)
    walk_at "r"
    refine a_ixT (v := .str "call") hp (atI_nat (j := 0) rfl) ?_
    walk_at "r"
    refine ite2 (fun y => absurd y (by decide +kernel)) (fun _ => ?_)
    walk_at "r"
    refine a_ixT (v := .str f) hp (atI_nat (j := 1) rfl) ?_
    refine ⟨_, _, rfl, rfl, cat_ok (by omega), ?_⟩
    walk_at "r"
    refine ⟨_, _, rfl, rfl, cat_ok (by rw [tl_append, List.length_append]; omega), ?_⟩
    walk_at "r"
    refine ⟨⟨_, rfl⟩, ?_⟩
    walk_at "r"
    refine a_ixT (v := .ref p2') hp (atI_nat (j := 2) rfl) ?_
    refine c_L hl ?_
    refine cp_list (xs := xs) (fun l j hh => Ex H hh ∧ hh l = some (.lst ((((us.take j).map srX).map mkS).map V.str))) (fun l n => ⟨Ex.new n, upd_same⟩) (fun l j hh _ _ y => ex_sl hl y.1) ?_ ?_
    · rintro l j u hh nl hj ⟨Y, fl⟩
      obtain ⟨d, hd', dx⟩ := dpa_at hd hj
      rw [List.getElem?_map] at hd'
      obtain ⟨s, hs, rfl⟩ := Option.map_eq_some_iff.mp hd'
      have jl := at_lt hs
      walk_at "r"
      refine ⟨rfl, ?_⟩
      walk_at "r"
      refine ⟨u, s, rfl, dp_ex Y dx, os s (List.mem_of_getElem? hs), fun H1 e1 => ?_⟩
      refine ⟨_, e1 _ _ fl, sz_lt (by rw [List.length_map, List.length_map, List.length_map, List.length_take]; omega), (Y.trans e1).mut nl, ?_⟩
      rw [upd_same, take_snoc hs, List.map_append, List.map_append, List.map_append]
      rfl
    · rintro l hh nl ⟨Y, fl⟩
      rw [lx, List.take_length] at fl
      have e0 : (tl ", ").length = 2 := by rw [sCom]; rfl
      refine a_join (ls := us.map srX) (.inl (SqL.of fl)) (by rw [List.length_map, e0]; omega) ?_
      refine ⟨_, _, rfl, rfl, cat_ok (by rw [tl_append, tl_append, List.length_append, List.length_append, tl_mkS]; omega), ?_⟩
      walk_at "r"
      refine ⟨_, _, rfl, rfl, cat_ok (by rw [tl_append, tl_append, tl_append, List.length_append, List.length_append, List.length_append, tl_mkS]; omega), ?_⟩
      have e : "call " ++ f ++ "(" ++ mkS (joinL (tl ", ") (us.map srX)) ++ ")" = mkS (stX sk (.call f us)) := ext_len (by simp [tl_append, tl_mkS, stX, p1, p2])
      rw [e]
      exact q hh Y
def pLtx (K : PySem.W.Frag) : Sp := fun vs H Q _ => ∃ p fs ss sk, vs = [.ref p] ∧ Dp K H (.ref p) (pgY sk fs ss) ∧ POk fs ss ∧ ∀ H1, Ex H H1 → Q (.str (mkS (txX sk fs ss))) H1
theorem ok__law_text (T : Tx K mg) : FnOk P w K mg base CX0 3 T.a__law_text T.e__law_text p__law_text (pLtx K) := by
  refine T.d__law_text.F.ok sc__law_text (fun vs H Q E h => ?_) (fun cdv A outer s H vs Q E hr h => ?_)
  · obtain ⟨p, fs, ss, sk, rfl, _⟩ := h
    rfl
  obtain ⟨p, fs, ss, sk, rfl, hp, ok, q⟩ := h
  have hu := hu_of hr
  refine ⟨_, (pss_cons (ps_set (i := 1) sc__law_text.nd rfl (.inl rfl) (pe_lst pa_nil))
    (pss_cons (ps_for PassesOwn.never rfl (plK K (pe_ix (ixL K) (pv 0) pe_int (fun _ _ => rfl))) (pg_name (i := 2) sc__law_text.nd rfl (.inl rfl)) (pss_cons (ps_expr (pe_bm PySem.F.plainAttrs_list PySem.F.slot_list_append PySem.F.type_list_append mt_append (pv 1) (pa_cons (pe_op op_add_str (pe_op op_add_str (pe_op op_add_str (pe_op op_add_str pe_str (pe_ix (ixL K) (pv 2) pe_int (fun _ _ => rfl))) pe_str) (pe_joinK K pe_str (pe_lc (own := [("param", 5)]) (g := gName 5) rfl sc__law_text.nd  (plK K (pe_ix (ixL K) (pv 2) pe_int (fun _ _ => rfl))) (blkOk_by (own := [("param", 5)]) (N := n__law_text) (sc := defScope s__law_text) (by decide +kernel)) (fun _ _ _ _ _ => (pg_name (i := 5) sc__law_text.nd rfl (Or.inl rfl))) (fun _ _ _ _ _ => pts_nil) (fun _ _ _ _ _ => (pe_op op_add_str (pe_op op_add_str (pe_ix (ixT K) (pv 5) pe_int (fun _ _ => rfl)) pe_str) (pe_call (ok__law_show_type T) (hr.mono (by omega)) (by rfl) T.d__law_show_type.m T.d__law_show_type.F.kp T.d__law_show_type.b .nil pass0 (pa_cons (pe_ix (ixT K) (pv 5) pe_int (fun _ _ => rfl)) pa_nil))))))) pe_str) pa_nil)))
    (pss_cons (ps_expr (pe_bm PySem.F.plainAttrs_list PySem.F.slot_list_extend PySem.F.type_list_extend mt_extend (pv 1) (pa_cons (pe_lc (own := [("st", 3)]) (g := gName 3) rfl sc__law_text.nd  (plK K (pe_ix (ixL K) (pv 2) pe_int (fun _ _ => rfl))) (blkOk_by (own := [("st", 3)]) (N := n__law_text) (sc := defScope s__law_text) (by decide +kernel)) (fun _ _ _ _ _ => (pg_name (i := 3) sc__law_text.nd rfl (Or.inl rfl))) (fun _ _ _ _ _ => pts_nil) (fun _ _ _ _ _ => (pe_op op_add_str pe_str (pe_call (ok__law_show T) (hr.mono (by omega)) (by rfl) T.d__law_show.m T.d__law_show.F.kp T.d__law_show.b .nil pass0 (pa_cons (pv 3) pa_nil))))) pa_nil)))
    (pss_one (ps_expr (pe_bm PySem.F.plainAttrs_list PySem.F.slot_list_append PySem.F.type_list_append mt_append (pv 1) (pa_cons pe_str pa_nil)))))))
    (pss_cons (ps_expr (pe_bm PySem.F.plainAttrs_list PySem.F.slot_list_extend PySem.F.type_list_extend mt_extend (pv 1) (pa_cons (pe_lc (own := [("st", 3)]) (g := gName 3) rfl sc__law_text.nd  (plK K (pe_ix (ixL K) (pv 0) pe_int (fun _ _ => rfl))) (blkOk_by (own := [("st", 3)]) (N := n__law_text) (sc := defScope s__law_text) (by decide +kernel)) (fun _ _ _ _ _ => (pg_name (i := 3) sc__law_text.nd rfl (Or.inl rfl))) (fun _ _ _ _ _ => pts_nil) (fun _ _ _ _ _ => (pe_call (ok__law_show T) (hr.mono (by omega)) (by rfl) T.d__law_show.m T.d__law_show.F.kp T.d__law_show.b .nil pass0 (pa_cons (pv 3) pa_nil)))) pa_nil)))
    (pss_one (ps_ret (pe_joinK K pe_str (pe_lc (own := [("line", 4)]) (g := gName 4) rfl sc__law_text.nd  (plK K (pv 1)) (blkOk_by (own := [("line", 4)]) (N := n__law_text) (sc := defScope s__law_text) (by decide +kernel)) (fun _ _ _ _ _ => (pg_name (i := 4) sc__law_text.nd rfl (Or.inl rfl))) (fun _ _ _ _ _ => pts_nil) (fun _ _ _ _ _ => (pe_op op_add_str (pv 4) pe_str))))))))), ?_⟩
  have o4 := ok.f4
  have o40 := ok.s40
  obtain ⟨_, u1, u2, e, hp2, d1, d2⟩ := dp_l2 hp
  cases e
  obtain ⟨r1, ws1, rfl, z2, z3⟩ := dp_lst d1
  obtain ⟨r2, ws2, rfl, z4, z5⟩ := dp_lst d2
  have wl := dpa_len z3
  rw [List.length_map, List.length_map] at wl
  walk_at "r"
  refine new_lst (xs := []) (by simp) fun l H1 n1 e1 f1 => ?_
  walk_at "r"
  refine a_ixL (v := .ref r1) (ex_sl hp2 e1) (atI_nat (j := 0) rfl) ?_
  refine r_L (ex_sl z2 e1) ?_
  refine lp_list (xs := ws1) (fun i σ h => (∃ x2 x3 x4 x5, σ = [some (.ref p), some (.ref l), x2, x3, x4, x5]) ∧ Ex H h ∧ h l = some (.lst (slV ((fs.take i).flatMap (fnX sk))))) ⟨⟨_, _, _, _, rfl⟩, e1, f1⟩ (fun i σ h _ g => ex_sl z2 g.2.1) ?_ ?_
  · rintro i v σ h hi ⟨⟨x2, x3, x4, x5, rfl⟩, X, fl⟩
    obtain ⟨dt, hdt, dx⟩ := dpa_at z3 hi
    rw [List.getElem?_map, List.getElem?_map] at hdt
    cases hf : fs[i]? with
    | none => rw [hf] at hdt; cases hdt
    | some f =>
    rw [hf] at hdt
    cases hdt
    have mf := List.mem_of_getElem? hf
    have o := ok.fo f mf
    have il := at_lt hf
    obtain ⟨a0, xs0, rfl, o1, hd0⟩ := dp_lst (show Dp K H v (.list [.str f.n, .list (f.p.map (pdY sk)), .list (f.b.map (stY sk))]) from dx)
    obtain ⟨y1, y2, y3, rfl, k1, k2, k3⟩ := dpa_three hd0
    cases dp_str k1
    obtain ⟨q1, w1, rfl, g1, g2⟩ := dp_lst k2
    obtain ⟨q2, w2, rfl, g3, g4⟩ := dp_lst k3
    have lw1 := dpa_len g2
    have lw2 := dpa_len g4
    have lp : w1.length = f.p.length := by rw [lw1]; exact List.length_map _
    have lb : w2.length = f.b.length := by rw [lw2]; exact List.length_map _
    have op4 := o.p4
    have ob12 := o.b12
    have lf := nm_len o.n
    have w1' : (tl "def ").length = 4 := by decide +kernel
    have p1' : (tl "(").length = 1 := by decide +kernel
    have p2' : (tl ")").length = 1 := by decide +kernel
    have p1 : tl "(" = [40] := by decide +kernel
    have p2 : tl ")" = [41] := by decide +kernel
    have w5 : (tl " : ").length = 3 := by decide +kernel
    walk_at "r"
    refine ⟨a_ty fl, ?_⟩
    walk_at "r"
    refine a_ixL (v := .str f.n) (ex_sl o1 X) (atI_nat (j := 0) rfl) ?_
    refine ⟨_, _, rfl, rfl, cat_ok (by omega), ?_⟩
    walk_at "r"
    refine ⟨_, _, rfl, rfl, cat_ok (by rw [tl_append, List.length_append]; omega), ?_⟩
    walk_at "r"
    refine ⟨⟨_, rfl⟩, ?_⟩
    walk_at "r"
    refine a_ixL (v := .ref q1) (ex_sl o1 X) (atI_nat (j := 1) rfl) ?_
    refine c_L (ex_sl g1 X) ?_
    refine cp_list (xs := w1) (fun d j hh => Ex h hh ∧ hh d = some (.lst (slV ((f.p.take j).map (dcX sk))))) (fun d n => ⟨Ex.new n, upd_same⟩) (fun d j hh _ _ y => ex_sl g1 (X.trans y.1)) ?_ ?_
    · rintro d j u hh nd hj ⟨Y, fd⟩
      obtain ⟨dt, hd', dx'⟩ := dpa_at g2 hj
      rw [List.getElem?_map] at hd'
      obtain ⟨qq, hq, rfl⟩ := Option.map_eq_some_iff.mp hd'
      have mq := List.mem_of_getElem? hq
      have dq : Dp K H u (.tuple [.str qq.1, kdY sk qq.2]) := by
        cases sk <;> exact dx'
      obtain ⟨p2, u1, u2, rfl, hp2', m1, m2⟩ := dp_two dq
      cases dp_str m1
      have lq := nm_len (o.po qq mq).1
      have lk := kd_len (sk := sk) (o.po qq mq).2
      walk_at "r"
      refine ⟨rfl, ?_⟩
      walk_at "r"
      refine a_ixT (v := .str qq.1) (ex_st hp2' (X.trans Y)) (atI_nat (j := 0) rfl) ?_
      walk_at "r"
      refine ⟨_, _, rfl, rfl, cat_ok (by omega), ?_⟩
      walk_at "r"
      refine a_ixT (v := u2) (ex_st hp2' (X.trans Y)) (atI_nat (j := 1) rfl) ?_
      walk_at "r"
      refine ⟨u2, sk, qq.2, rfl, dp_ex (X.trans Y) m2, (o.po qq mq).2, fun H2 e2 => ?_⟩
      have jl := at_lt hq
      refine ⟨_, _, rfl, rfl, cat_ok (by rw [tl_append, List.length_append, tl_mkS]; omega), ?_⟩
      have e : qq.1 ++ " : " ++ mkS (kdX sk qq.2) = mkS (dcX sk qq) := ext_len (by simp [tl_append, tl_mkS, dcX])
      rw [e]
      refine ⟨_, e2 _ _ fd, sz_lt (by rw [slV_len, List.length_map, List.length_take]; omega), (Y.trans e2).mut nd, ?_⟩
      rw [upd_same, take_snoc hq, List.map_append, slV_app]
      rfl
    rintro d hh nd ⟨Y, fd⟩
    rw [lp, List.take_length] at fd
    have e0 : (tl ", ").length = 2 := by rw [sCom]; rfl
    have jl := jn_len (ls := f.p.map (dcX sk)) (m := 29) fun l m => by
      obtain ⟨qq, mq, rfl⟩ := List.mem_map.mp m
      exact dc_len (o.po qq mq).1 (o.po qq mq).2
    rw [List.length_map] at jl
    refine a_join (ls := f.p.map (dcX sk)) (.inl (SqL.of fd)) (by rw [List.length_map, e0]; omega) ?_
    have fl2 := Y _ _ fl
    refine ⟨_, _, rfl, rfl, cat_ok (by rw [tl_append, tl_append, List.length_append, List.length_append, tl_mkS]; omega), ?_⟩
    walk_at "r"
    refine ⟨_, _, rfl, rfl, cat_ok (by rw [tl_append, tl_append, tl_append, List.length_append, List.length_append, List.length_append, tl_mkS]; omega), ?_⟩
    walk_at "r"
    have e : "def " ++ f.n ++ "(" ++ mkS (joinL (tl ", ") (f.p.map (dcX sk))) ++ ")" = mkS (hdX sk f) := ext_len (by simp [tl_append, tl_mkS, hdX, p1, p2])
    rw [e]
    have cnt := fns_cnt (sk := sk) (fs := fs.take i) fun f m => ok.fo f (List.mem_of_mem_take m)
    rw [List.length_take] at cnt
    have lc : (slV ((fs.take i).flatMap (fnX sk))).length ≤ 100 := by
      rw [slV_len]
      omega
    refine a_app fl2 (by omega) ?_
    have K2 : Ex H (upd hh l (.lst (slV ((fs.take i).flatMap (fnX sk)) ++ [.str (mkS (hdX sk f))]))) := (X.trans Y).mut n1
    have f2' : upd hh l (.lst (slV ((fs.take i).flatMap (fnX sk)) ++ [.str (mkS (hdX sk f))])) l = some (.lst (slV ((fs.take i).flatMap (fnX sk)) ++ [.str (mkS (hdX sk f))])) := upd_same
    generalize upd hh l (.lst (slV ((fs.take i).flatMap (fnX sk)) ++ [.str (mkS (hdX sk f))])) = h2 at K2 f2' ⊢
    walk_at "r"
    refine ⟨a_ty f2', ?_⟩
    walk_at "r"
    refine a_ixL (v := .ref q2) (ex_sl o1 K2) (atI_nat (j := 2) rfl) ?_
    refine c_L (ex_sl g3 K2) ?_
    refine cp_list (xs := w2) (fun d j hh => Ex h2 hh ∧ hh d = some (.lst (slV ((f.b.take j).map fun s => tl "  " ++ stX sk s)))) (fun d n => ⟨Ex.new n, upd_same⟩) (fun d j hh _ _ y => ex_sl g3 (K2.trans y.1)) ?_ ?_
    · rintro d j u hh2 nd2 hj ⟨Y2, fd2⟩
      obtain ⟨dt, hd', dx'⟩ := dpa_at g4 hj
      rw [List.getElem?_map] at hd'
      obtain ⟨s, hs, rfl⟩ := Option.map_eq_some_iff.mp hd'
      have ms := List.mem_of_getElem? hs
      have jl2 := at_lt hs
      walk_at "r"
      refine ⟨rfl, ?_⟩
      walk_at "r"
      refine ⟨u, sk, s, rfl, dp_ex (K2.trans Y2) dx', o.bo s ms, fun H3 e3 => ?_⟩
      have ls := st_len (sk := sk) (o.bo s ms)
      refine ⟨"  ", mkS (stX sk s), rfl, rfl, cat_ok (by rw [tl_mkS, show (tl "  ").length = 2 from by decide +kernel]; omega), ?_⟩
      rw [mkS_appL]
      refine ⟨_, e3 _ _ fd2, sz_lt (by rw [slV_len, List.length_map, List.length_take]; omega), (Y2.trans e3).mut nd2, ?_⟩
      rw [upd_same, take_snoc hs, List.map_append, slV_app]
      rfl
    rintro d2 h3 nd2 ⟨Y2, fd2⟩
    rw [lb, List.take_length] at fd2
    walk_at "r"
    refine a_extend (Y2 _ _ f2') fd2 (by rw [List.length_append, slV_len, slV_len, List.length_map]; show _ + 1 + _ ≤ _; omega) ?_
    have K3 := (K2.trans Y2).mut (o := .lst (slV ((fs.take i).flatMap (fnX sk)) ++ [.str (mkS (hdX sk f))] ++ slV (f.b.map fun s => tl "  " ++ stX sk s))) n1
    have f3' : upd h3 l (.lst (slV ((fs.take i).flatMap (fnX sk)) ++ [.str (mkS (hdX sk f))] ++ slV (f.b.map fun s => tl "  " ++ stX sk s))) l = some (.lst (slV ((fs.take i).flatMap (fnX sk)) ++ [.str (mkS (hdX sk f))] ++ slV (f.b.map fun s => tl "  " ++ stX sk s))) := upd_same
    generalize upd h3 l (.lst (slV ((fs.take i).flatMap (fnX sk)) ++ [.str (mkS (hdX sk f))] ++ slV (f.b.map fun s => tl "  " ++ stX sk s))) = h4 at K3 f3' ⊢
    walk_at "r"
    refine ⟨a_ty f3', ?_⟩
    walk_at "r"
    refine a_app f3' (by rw [List.length_append, List.length_append, slV_len (f.b.map fun s => tl "  " ++ stX sk s), List.length_map]; show _ + 1 + _ < _; omega) ?_
    refine ⟨⟨_, _, _, _, rfl⟩, K3.mut n1, ?_⟩
    rw [upd_same, take_snoc hf, List.flatMap_append, slV_app]
    congr 2
    rw [List.append_assoc, List.append_assoc]
    congr 1
    rw [List.flatMap_cons, List.flatMap_nil, List.append_nil]
    unfold fnX
    rw [slV_app, slV_one, mkS_tl]
    rfl
  · rintro σ h ⟨⟨x2, x3, x4, x5, rfl⟩, X, fl⟩
    rw [wl, List.take_length] at fl
    have cnt := fns_cnt (sk := sk) (fs := fs) ok.fo
    have l5 : ws2.length = ss.length := by rw [dpa_len z5, List.length_map]
    walk_at "r"
    refine ⟨a_ty fl, ?_⟩
    walk_at "r"
    refine a_ixL (v := .ref r2) (ex_sl hp2 X) (atI_nat (j := 1) rfl) ?_
    refine c_L (ex_sl z4 X) ?_
    refine cp_list (xs := ws2) (fun d j hh => Ex h hh ∧ hh d = some (.lst (slV ((ss.take j).map (stX sk))))) (fun d n => ⟨Ex.new n, upd_same⟩) (fun d j hh _ _ y => ex_sl z4 (X.trans y.1)) ?_ ?_
    · rintro d j u hh nd hj ⟨Y, fd⟩
      obtain ⟨dt, hd', dx'⟩ := dpa_at z5 hj
      rw [List.getElem?_map] at hd'
      obtain ⟨s, hs, rfl⟩ := Option.map_eq_some_iff.mp hd'
      have ms := List.mem_of_getElem? hs
      have jl2 := at_lt hs
      walk_at "r"
      refine ⟨rfl, ?_⟩
      walk_at "r"
      refine ⟨u, sk, s, rfl, dp_ex (X.trans Y) dx', ok.so s ms, fun H3 e3 => ?_⟩
      refine ⟨_, e3 _ _ fd, sz_lt (by rw [slV_len, List.length_map, List.length_take]; omega), (Y.trans e3).mut nd, ?_⟩
      rw [upd_same, take_snoc hs, List.map_append, slV_app]
      rfl
    rintro d h3 nd ⟨Y, fd⟩
    rw [l5, List.take_length] at fd
    walk_at "r"
    refine a_extend (Y _ _ fl) fd (by rw [slV_len, slV_len, List.length_map]; omega) ?_
    rw [← slV_app]
    have K3 := (X.trans Y).mut (o := .lst (slV (fs.flatMap (fnX sk) ++ ss.map (stX sk)))) n1
    have f3' : upd h3 l (.lst (slV (fs.flatMap (fnX sk) ++ ss.map (stX sk)))) l = some (.lst (slV (lnX sk fs ss))) := upd_same
    generalize upd h3 l (.lst (slV (fs.flatMap (fnX sk) ++ ss.map (stX sk)))) = h4 at K3 f3' ⊢
    have lcnt : (lnX sk fs ss).length ≤ 100 := by
      unfold lnX
      rw [List.length_append, List.length_map]
      omega
    walk_at "r"
    refine ⟨⟨_, rfl⟩, ?_⟩
    walk_at "r"
    refine c_L (SqL.of f3') ?_
    refine cp_list (xs := slV (lnX sk fs ss)) (fun d j hh => Ex h4 hh ∧ hh d = some (.lst (slV (((lnX sk fs ss).take j).map (· ++ [10]))))) (fun d n => ⟨Ex.new n, upd_same⟩) (fun d j hh _ _ y => SqL.of (y.1 _ _ f3')) ?_ ?_
    · rintro d j u hh nd2 hj ⟨Y2, fd2⟩
      obtain ⟨ln, hln, rfl⟩ := slV_at hj
      have jl2 := at_lt hln
      have l140 := ln_len ok _ (List.mem_of_getElem? hln)
      walk_at "r"
      refine ⟨rfl, ?_⟩
      walk_at "r"
      have n10 : tl "\n" = [10] := by decide +kernel
      refine ⟨mkS ln, "\n", rfl, rfl, cat_ok (by rw [tl_mkS, n10]; show _ + 1 ≤ _; omega), ?_⟩
      rw [mkS_appR, n10]
      refine ⟨_, fd2, sz_lt (by rw [slV_len, List.length_map, List.length_take]; omega), Y2.mut nd2, ?_⟩
      rw [upd_same, take_snoc hln, List.map_append, slV_app]
      rfl
    rintro d2 h5 nd2 ⟨Y2, fd2⟩
    rw [slV_len, List.take_length] at fd2
    have sl := sum_le (l := (lnX sk fs ss).map (· ++ [10])) (m := 141) fun x m => by
      obtain ⟨ln, mln, rfl⟩ := List.mem_map.mp m
      have := ln_len ok _ mln
      rw [List.length_append]
      show _ + 1 ≤ _
      omega
    rw [List.length_map] at sl
    refine a_join (ls := (lnX sk fs ss).map (· ++ [10])) (.inl (SqL.of fd2)) (by rw [List.length_map, show (tl "").length = 0 from rfl]; omega) ?_
    have je : ∀ l : List Ln, joinL (tl "") l = l.flatten := by
      intro l
      induction l with
      | nil => rfl
      | cons a l ih =>
        cases l with
        | nil => show a = _; simp
        | cons b l =>
          show a ++ ([] ++ joinL (tl "") (b :: l)) = _
          rw [ih]
          rfl
    rw [je]
    have := q h5 (K3.trans Y2)
    unfold txX at this
    rw [← List.flatMap_def] at *
    exact this
end
section
variable {P : Program} {w : World} {K : PySem.W.Frag} {mg : Str → Option Value} {base : Heap}
open TL
theorem a_intD {H : Hp} {Q : VK} {l : Ln} (hd : ∀ c ∈ l, 48 ≤ c ∧ c ≤ 57) (ne : l ≠ []) (hl : l.length ≤ 640) (q : Q (.int (NumText.digitsVal l : Nat)) H) : rIntS [.str (mkS l)] H Q :=
  ⟨mkS l, _, rfl, intText_digits (x := mkS l) hd ne (by rw [mkS_len]; omega), by rw [mkS_len]; exact hl, q⟩
def pCo (K : PySem.W.Frag) : Sp := fun vs H Q _ => ∃ x z, vs = [.str x, .str z] ∧ (tl x).length ≤ 50000 ∧ ∀ H1, Ex H H1 → Q (.bl (decide (0 < (tl x).length) && (tl x).all fun c => decide (c ∈ tl z))) H1
theorem ok_consists_of (T : Tx K mg) : FnOk P w K mg base CX0 1 T.a_consists_of T.e_consists_of p_consists_of (pCo K) := by
  refine T.d_consists_of.F.ok sc_consists_of (fun vs H Q E h => ?_) (fun cdv A outer s H vs Q E hr h => ?_)
  · obtain ⟨x, z, rfl, _⟩ := h
    rfl
  obtain ⟨x, z, rfl, hl, q⟩ := h
  refine ⟨_, (pss_one (ps_ret (pe_and (pe_cmpR op_gt (pe_callB k_lenS (by rfl) T.b_len PySem.boot_len (pa_cons (pv 0) pa_nil)) pe_int (nomark _)) (pe_one (pe_callB (allK K) (by rfl) T.b_all (by decide +kernel) (pa_cons (pe_lc (own := [("sign", 2)]) (g := gName 2) rfl sc_consists_of.nd  (pi_str (pv 0)) (blkOk_by (own := [("sign", 2)]) (N := n_consists_of) (sc := defScope s_consists_of) (by decide +kernel)) (fun _ _ _ _ _ => (pg_name (i := 2) sc_consists_of.nd rfl (Or.inl rfl))) (fun _ _ _ _ _ => pts_nil) (fun _ _ _ _ _ => (pe_cmpR k_inS (pv 2) (pv 1) (by rfl)))) pa_nil)))))), ?_⟩
  have hx := len_tl x
  walk_at "r"
  refine a_lenS (by omega) ?_
  walk_at "r"
  refine ite2 (fun y => ?_) (fun y => ?_)
  · have y1 : 0 < (tl x).length := by
      have := of_decide_eq_true y
      omega
    walk_at "r"
    refine cp_chars (z := x) (fun l k h => Ex H h ∧ h l = some (.lst (((x.cps.toList.take k).map fun c => decide (c ∈ tl z)).map V.bl))) (fun l n => ⟨Ex.new n, upd_same⟩) ?_ ?_
    · rintro l k ch h nl hx ⟨e, f⟩
      have hk : k < x.length := (Array.getElem?_eq_some_iff.mp hx).1
      walk_at "r"
      refine ⟨rfl, ?_⟩
      walk_at "r"
      refine a_inS (b := decide (ch ∈ tl z)) (PySem.StrLaws.found_one z ch) ?_
      refine ⟨_, f, sz_lt (by rw [List.length_map, List.length_map, List.length_take]; omega), e.mut nl, ?_⟩
      have hx' : x.cps.toList[k]? = some ch := by rw [Array.getElem?_toList]; exact hx
      rw [upd_same, take_snoc hx', List.map_append, List.map_append]
      rfl
    · rintro l h nl ⟨e, f⟩
      walk_at "r"
      have e3 : x.cps.toList.take x.cps.size = x.cps.toList := List.take_of_length_le (by simp)
      rw [e3] at f
      refine ⟨l, _, rfl, SqL.of f, ?_⟩
      have e4 : (x.cps.toList.map fun c => decide (c ∈ tl z)).all id = (tl x).all fun c => decide (c ∈ tl z) := by
        rw [List.all_map]
        rfl
      rw [e4]
      have g2 := q h e
      rw [decide_eq_true y1, Bool.true_and] at g2
      exact g2
  · have g := q H (Ex.refl _)
    rw [decide_eq_false (fun z : 0 < (tl x).length => y (decide_eq_true (by omega))), Bool.false_and] at g
    walk_at "r"
    exact g
def pNm (K : PySem.W.Frag) : Sp := fun vs H Q _ => ∃ x, vs = [.str x] ∧ (tl x).length ≤ 50000 ∧ (nmL (tl x) = true → ∀ H1, Ex H H1 → Q (.str x) H1) ∧ (nmL (tl x) = false → ∀ H1, Ex H H1 → Q .non H1)
theorem ok_name_read (T : Tx K mg) : FnOk P w K mg base CX0 2 T.a_name_read T.e_name_read p_name_read (pNm K) := by
  refine T.d_name_read.F.ok sc_name_read (fun vs H Q E h => ?_) (fun cdv A outer s H vs Q E hr h => ?_)
  · obtain ⟨x, rfl, _⟩ := h
    rfl
  obtain ⟨x, rfl, hl, qy, qn⟩ := h
  refine ⟨_, (pss_cons (ps_if (pt_val (pe_call (ok_consists_of T) (hr.mono (by omega)) (by rfl) T.d_consists_of.m T.d_consists_of.F.kp T.d_consists_of.b .nil pass0 (pa_cons (pv 0) (pa_cons (pe_glob (v := .str "abcdefghijklmnopqrstuvwxyz") (by rfl) T.m_SIGNS ⟨_, rfl⟩) pa_nil)))) (pss_one (ps_ret (pv 0))) pss_nil)
    (pss_one (ps_ret pe_non))), ?_⟩
  walk_at "r"
  refine ⟨x, signs, rfl, hl, fun H1 e1 => ?_⟩
  have e : (decide (0 < (tl x).length) && (tl x).all fun c => decide (c ∈ tl signs)) = nmL (tl x) := rfl
  rw [e]
  walk_at "r"
  cases h : nmL (tl x) with
  | true =>
    walk_at "r"
    exact qy h H1 e1
  | false =>
    walk_at "r"
    exact qn h H1 e1
def pNu (K : PySem.W.Frag) : Sp := fun vs H Q _ => ∃ x, vs = [.str x] ∧ (tl x).length ≤ 50000 ∧ (nuL (tl x) = true → ∀ H1, Ex H H1 → Q (.int (nvP (tl x) : Nat)) H1) ∧ (nuL (tl x) = false → ∀ H1, Ex H H1 → Q .non H1)
theorem ok_number_read (T : Tx K mg) : FnOk P w K mg base CX0 2 T.a_number_read T.e_number_read p_number_read (pNu K) := by
  refine T.d_number_read.F.ok sc_number_read (fun vs H Q E h => ?_) (fun cdv A outer s H vs Q E hr h => ?_)
  · obtain ⟨x, rfl, _⟩ := h
    rfl
  obtain ⟨x, rfl, hl, qy, qn⟩ := h
  refine ⟨_, (pss_cons (ps_if (PW.pt (pw_or (pt_not (pt_val (pe_call (ok_consists_of T) (hr.mono (by omega)) (by rfl) T.d_consists_of.m T.d_consists_of.F.kp T.d_consists_of.b .nil pass0 (pa_cons (pv 0) (pa_cons (pe_glob (v := .str "0123456789") (by rfl) T.m_DIGITS ⟨_, rfl⟩) pa_nil))))) (pw_or1 (PW.pt (pw_and (pt_cmpR op_eq (pe_ix ix_str (pv 0) pe_int (fun _ _ => rfl)) pe_str (nomark _)) (pw_and1 (pt_cmpR op_gt (pe_callB k_lenS (by rfl) T.b_len PySem.boot_len (pa_cons (pv 0) pa_nil)) pe_int (nomark _)))))))) (pss_one (ps_ret pe_non)) pss_nil)
    (pss_one (ps_ret (pe_callTy intSK (by rfl) T.b_int (by decide +kernel) (pa_cons (pe_slice sl_str (pv 0) po_none (po_some (pe_glob (v := .int 9) (by rfl) T.m_MOST_DIGITS ⟨_, rfl⟩))) pa_nil))))), ?_⟩
  walk_at "r"
  refine ⟨x, "0123456789", rfl, hl, fun H1 e1 => ?_⟩
  have e : (decide (0 < (tl x).length) && (tl x).all fun c => decide (c ∈ tl "0123456789")) = (decide (0 < (tl x).length) && (tl x).all digB) := rfl
  rw [e]
  have en : nuL (tl x) = ((decide (0 < (tl x).length) && (tl x).all digB) && !(decide ((tl x).head? = some 48) && decide (1 < (tl x).length))) := rfl
  have hx := len_tl x
  walk_at "r"
  cases h : (decide (0 < (tl x).length) && (tl x).all digB) with
  | false =>
    rw [h, Bool.false_and] at en
    walk_at "r"
    exact qn en H1 e1
  | true =>
    rw [h, Bool.true_and] at en
    have hc : 0 < (tl x).length := by
      rw [Bool.and_eq_true, decide_eq_true_iff] at h
      exact h.1
    obtain ⟨c, r, ex⟩ : ∃ c r, tl x = c :: r := by
      cases ht : tl x with
      | nil => rw [ht] at hc; exact absurd hc (by decide)
      | cons c r => exact ⟨c, r, rfl⟩
    walk_at "r"
    have e48 : (decide ((⟨#[c]⟩ : Str) = "0")) = decide (c = 48) := by
      refine decide_eq_decide.mpr ⟨fun z => ?_, fun z => ?_⟩
      · have := congrArg tl z
        rw [show tl "0" = [48] from by decide +kernel] at this
        exact (List.cons.inj this).1
      · rw [z]
        exact ext_tl (by rw [show tl "0" = [48] from by decide +kernel])
    have eh : ((tl x).head? = some 48) ↔ c = 48 := by
      rw [ex]
      exact ⟨fun z => Option.some.inj z, fun z => by rw [z]; rfl⟩
    have fin : ∀ H2, Ex H1 H2 → nuL (tl x) = true → Q (.int (nvP (tl x) : Nat)) H2 := fun H2 e2 z => qy z H2 (e1.trans e2)
    have last : nuL (tl x) = true → rSlS (V.str x) none (some 9) H1 (fun a Ha => tNil (L2.start n_number_read [V.str x]) Ha fun xs Hb => rIntS (a :: xs) Hb Q) := fun z => by
      refine a_cutS (r := (tl x).take 9) hl (cut_to x 9) ?_
      walk_at "r"
      refine a_intD (fun d md => nu_dig z d (List.mem_of_mem_take md)) (by rw [ex]; simp) (by rw [List.length_take]; omega) ?_
      exact fin H1 (Ex.refl _) z
    refine ⟨x, 0, c, rfl, rfl, by rw [hx]; exact lt_line (by omega), atI_nat (j := 0) (by show (tl x)[0]? = some c; rw [ex]; rfl), ?_⟩
    walk_at "r"
    rw [e48]
    by_cases c48 : c = 48
    · rw [decide_eq_true c48]
      walk_at "r"
      refine a_lenS (by omega) ?_
      walk_at "r"
      rw [decide_eq_true (eh.mpr c48), Bool.true_and] at en
      by_cases l1 : 1 < (tl x).length
      · rw [decide_eq_true l1] at en
        rw [decide_eq_true (show (1 : Int) < (x.length : Nat) from by omega)]
        walk_at "r"
        exact qn en H1 e1
      · rw [decide_eq_false l1] at en
        rw [decide_eq_false (show ¬ (1 : Int) < (x.length : Nat) from by omega)]
        walk_at "r"
        exact last en
    · rw [decide_eq_false c48]
      rw [decide_eq_false (fun z => c48 (eh.mp z)), Bool.false_and] at en
      walk_at "r"
      exact last en
/-- the rights in words -/
theorem rt_in (l : Ln) : inV (.str (mkS l)) rs4 = decide (l ∈ RT) := by
  have h1 : ∀ s : Str, eqV (.str s) (.str (mkS l)) = decide (tl s = l) := fun s => by
    show decide (s = mkS l) = _
    refine decide_eq_decide.mpr ⟨fun z => by rw [z, tl_mkS], fun z => by rw [← z, mkS_tl]⟩
  show (eqV (.str "rw") (.str (mkS l)) || (eqV (.str "r") (.str (mkS l)) || (eqV (.str "w") (.str (mkS l)) || (eqV (.str "-") (.str (mkS l)) || false)))) = _
  rw [h1, h1, h1, h1, Bool.eq_iff_iff]
  unfold RT
  simp only [Bool.or_eq_true, decide_eq_true_iff, List.mem_cons, List.not_mem_nil, or_false, Bool.or_false]
  constructor
  · rintro (h | h | h | h) <;> simp [← h]
  · rintro (h | h | h | h) <;> simp [h]
theorem spW_len {l : Ln} : (spW l).length ≤ l.length + 1 := by
  have key : ∀ (l acc : Ln), (spl [32] 0 acc l).length ≤ l.length + 1 := by
    intro l
    induction l with
    | nil => intro acc; rw [spl_nil]; exact Nat.le_refl _
    | cons c r ih =>
      intro acc
      cases hp : pre [32] (c :: r) with
      | true =>
        rw [spl_hit hp]
        have := ih []
        simp only [List.length_cons] at this ⊢
        show (spl [32] 0 [] r).length + 1 ≤ _
        omega
      | false =>
        rw [spl_miss hp]
        have := ih (acc ++ [c])
        simp only [List.length_cons]
        omega
  exact key l []
def pKd (K : PySem.W.Frag) : Sp := fun vs H Q _ => ∃ x, vs = [.str x] ∧ (tl x).length ≤ 50000 ∧ (∀ d, kdL nvP (tl x) = some d → ∀ v H1, Ex H H1 → Dp K H1 v d → Q v H1) ∧ (kdL nvP (tl x) = none → ∀ H1, Ex H H1 → Q .non H1)
theorem ok_kind_read (T : Tx K mg) : FnOk P w K mg base CX0 3 T.a_kind_read T.e_kind_read p_kind_read (pKd K) := by
  refine T.d_kind_read.F.ok sc_kind_read (fun vs H Q E h => ?_) (fun cdv A outer s H vs Q E hr h => ?_)
  · obtain ⟨x, rfl, _⟩ := h
    rfl
  obtain ⟨x, rfl, hl, qy, qn⟩ := h
  refine ⟨_, (pss_cons (ps_set (i := 1) sc_kind_read.nd rfl (.inl rfl) (pe_m1 PySem.F.slot_str_split PySem.F.type_str_split mtSpl (pv 0) pe_str))
    (pss_cons (ps_if (pt_val (pe_callB (allK K) (by rfl) T.b_all (by decide +kernel) (pa_cons (pe_lc (own := [("word", 2)]) (g := gName 2) rfl sc_kind_read.nd  (plK K (pv 1)) (blkOk_by (own := [("word", 2)]) (N := n_kind_read) (sc := defScope s_kind_read) (by decide +kernel)) (fun _ _ _ _ _ => (pg_name (i := 2) sc_kind_read.nd rfl (Or.inl rfl))) (fun _ _ _ _ _ => pts_nil) (fun _ _ _ _ _ => (pe_cmpR (inK K) (pv 2) (pe_glob (v := .ref T.a_RIGHTS) (by rfl) T.m_RIGHTS rfl) (by rfl)))) pa_nil))) (pss_one (ps_ret (pe_callTy (tupFK K) (by rfl) T.b_tuple (by decide +kernel) (pa_cons (pv 1) pa_nil)))) pss_nil)
    (pss_one (ps_ret (pe_call (ok_number_read T) (hr.mono (by omega)) (by rfl) T.d_number_read.m T.d_number_read.F.kp T.d_number_read.b .nil pass0 (pa_cons (pv 0) pa_nil)))))), ?_⟩
  have s32 : tl " " = [32] := by decide +kernel
  have wl := spW_len (l := tl x)
  walk_at "r"
  refine ⟨⟨_, rfl⟩, ?_⟩
  walk_at "r"
  refine a_spl (by rw [s32]; simp) (by decide +kernel) hl fun p H1 n1 e1 f1 => ?_
  rw [s32] at f1
  have f1' : H1 p = some (.lst (slV (spW (tl x)))) := by
    rw [f1]
    unfold slV
    rw [List.map_map]
    rfl
  walk_at "r"
  refine c_L (SqL.of f1') ?_
  refine cp_list (xs := slV (spW (tl x))) (fun d j hh => Ex H1 hh ∧ hh d = some (.lst ((((spW (tl x)).take j).map fun w => decide (w ∈ RT)).map V.bl))) (fun d n => ⟨Ex.new n, upd_same⟩) (fun d j hh _ _ y => SqL.of (y.1 _ _ f1')) ?_ ?_
  · rintro d j u hh nd hj ⟨Y, fd⟩
    obtain ⟨wd, hw, rfl⟩ := slV_at hj
    have jl := at_lt hw
    walk_at "r"
    refine ⟨rfl, ?_⟩
    walk_at "r"
    refine a_inT (T.t_RIGHTS _) rfl rfl ?_
    rw [rt_in]
    refine ⟨_, fd, sz_lt (by rw [List.length_map, List.length_map, List.length_take]; omega), Y.mut nd, ?_⟩
    rw [upd_same, take_snoc hw, List.map_append, List.map_append]
    rfl
  rintro d hh nd ⟨Y, fd⟩
  rw [slV_len, List.take_length] at fd
  walk_at "r"
  refine ⟨d, _, rfl, SqL.of fd, ?_⟩
  have e4 : ((spW (tl x)).map fun w => decide (w ∈ RT)).all id = (spW (tl x)).all fun w => decide (w ∈ RT) := by
    rw [List.all_map]
    rfl
  rw [e4]
  have ek : kdL nvP (tl x) = if (spW (tl x)).all (fun w => decide (w ∈ RT)) = true then some (.tuple ((spW (tl x)).map fun w => .str (mkS w))) else if nuL (tl x) = true then some (.int (nvP (tl x))) else none := rfl
  cases h : (spW (tl x)).all fun w => decide (w ∈ RT) with
  | true =>
    rw [h, if_pos rfl] at ek
    walk_at "r"
    refine a_tupFL (SqL.of (Y _ _ f1')) fun t H2 n2 e2 f2 => ?_
    refine qy _ ek _ H2 (e1.trans (Y.trans e2)) (.tup (Tu.st f2) ?_)
    unfold slV
    rw [List.map_map]
    have key : ∀ l : List Ln, DpAll K H2 (l.map (V.str ∘ mkS)) (l.map fun w => .str (mkS w)) := by
      intro l
      induction l with
      | nil => exact .nil
      | cons a l ih => exact .cons (.str _) ih
    exact key _
  | false =>
    rw [h, if_neg (by simp)] at ek
    walk_at "r"
    refine ⟨x, rfl, hl, fun hn H2 e2 => ?_, fun hn H2 e2 => ?_⟩
    · rw [if_pos hn] at ek
      exact qy _ ek _ H2 (e1.trans (Y.trans e2)) (.int _)
    · rw [if_neg (by rw [hn]; simp)] at ek
      exact qn ek H2 (e1.trans (Y.trans e2))
end
section
variable {P : Program} {w : World} {K : PySem.W.Frag} {mg : Str → Option Value} {base : Heap}
open TL
theorem par_len {S l a b : Ln} (h : par S [] l = some (a, b)) : a.length + b.length ≤ l.length := by
  rw [par_eq h, List.length_append, List.length_append]
  omega
theorem kd_nil (nv : NV) : kdL nv [] = none := by
  unfold kdL
  rw [if_neg, if_neg]
  · intro z; cases z
  · rw [show spW [] = [[]] from spl_nil _ _ _, rt_eq]
    simp
theorem kd_nn {K : PySem.W.Frag} {H : Hp} {nv : NV} {l : Ln} {d : PyData} {v : V} (h : kdL nv l = some d) (dv : Dp K H v d) : v ≠ .non := fun z => by
  subst z
  unfold kdL at h
  split at h
  · cases h
    cases dv
  · split at h
    · cases h
      cases dv
    · cases h
def pDc (K : PySem.W.Frag) : Sp := fun vs H Q _ => ∃ x, vs = [.str x] ∧ (tl x).length ≤ 50000 ∧ (∀ q, dcL nvP (tl x) = some q → ∀ p u H1, H p = none → Ex H H1 → H1 p = some (.tup [.str q.1, u]) → Dp K H1 u q.2 → Q (.ref p) H1) ∧ (dcL nvP (tl x) = none → ∀ H1, Ex H H1 → Q .non H1)
theorem ok_declared_read (T : Tx K mg) : FnOk P w K mg base CX0 4 T.a_declared_read T.e_declared_read p_declared_read (pDc K) := by
  refine T.d_declared_read.F.ok sc_declared_read (fun vs H Q E h => ?_) (fun cdv A outer s H vs Q E hr h => ?_)
  · obtain ⟨x, rfl, _⟩ := h
    rfl
  obtain ⟨x, rfl, hl, qy, qn⟩ := h
  refine ⟨_, (pss_cons (ps_asg (pe_m1 PySem.F.slot_str_partition PySem.F.type_str_partition mtPar (pv 0) pe_str) (pg_tup (by rfl) (pgs_cons (pg_name (i := 1) sc_declared_read.nd rfl (.inl rfl)) (pgs_cons (pg_name (i := 2) sc_declared_read.nd rfl (.inl rfl)) (pgs_cons (pg_name (i := 3) sc_declared_read.nd rfl (.inl rfl)) pgs_nil)))))
    (pss_cons (ps_set (i := 4) sc_declared_read.nd rfl (.inl rfl) (pe_call (ok_name_read T) (hr.mono (by omega)) (by rfl) T.d_name_read.m T.d_name_read.F.kp T.d_name_read.b .nil pass0 (pa_cons (pv 1) pa_nil)))
    (pss_cons (ps_set (i := 5) sc_declared_read.nd rfl (.inl rfl) (pe_call (ok_kind_read T) (hr.mono (by omega)) (by rfl) T.d_kind_read.m T.d_kind_read.F.kp T.d_kind_read.b .nil pass0 (pa_cons (pv 3) pa_nil)))
    (pss_cons (ps_if (PW.pt (pw_or (pt_cmpR k_isN (pv 4) pe_non (nomark _)) (pw_or1 (pt_cmpR k_isN (pv 5) pe_non (nomark _))))) (pss_one (ps_ret pe_non)) pss_nil)
    (pss_one (ps_ret (pe_tup (pa_cons (pv 4) (pa_cons (pv 5) pa_nil))))))))), ?_⟩
  have hS : tl " : " ≠ [] := by rw [sCol]; simp
  have ed : dcL nvP (tl x) = match par (tl " : ") [] (tl x) with
    | none => none
    | some (a, b) => if nmL a = true then (kdL nvP b).map fun k => (mkS a, k) else none := rfl
  walk_at "r"
  refine ⟨⟨_, rfl⟩, ?_⟩
  walk_at "r"
  refine a_par hS hl fun p H1 n1 e1 f1 => ?_
  cases hp : par (tl " : ") [] (tl x) with
  | none =>
    rw [hp] at ed
    rw [part_none hS hp] at f1
    refine w_gtup (xs := [.str x, .str Str.empty, .str Str.empty]) (SqT.of f1) rfl ?_
    walk_at "r"
    have rest : ∀ (v : V) (H2 : Hp), Ex H1 H2 → True := fun _ _ _ => trivial
    refine ⟨x, rfl, hl, fun hn H2 e2 => ?_, fun hn H2 e2 => ?_⟩
    · walk_at "r"
      refine ⟨Str.empty, rfl, by rw [tl_empty]; decide, fun d hd => ?_, fun _ H3 e3 => ?_⟩
      · rw [tl_empty, kd_nil] at hd
        cases hd
      · walk_at "r"
        exact qn ed H3 (e1.trans (e2.trans e3))
    · walk_at "r"
      refine ⟨Str.empty, rfl, by rw [tl_empty]; decide, fun d hd => ?_, fun _ H3 e3 => ?_⟩
      · rw [tl_empty, kd_nil] at hd
        cases hd
      · walk_at "r"
        exact qn ed H3 (e1.trans (e2.trans e3))
  | some ab =>
    obtain ⟨a, b⟩ := ab
    rw [hp] at ed
    have pl := par_len hp
    rw [part_some hS hp] at f1
    refine w_gtup (xs := [.str (mkS a), .str " : ", .str (mkS b)]) (SqT.of f1) rfl ?_
    walk_at "r"
    refine ⟨mkS a, rfl, by rw [tl_mkS]; omega, fun hn H2 e2 => ?_, fun hn H2 e2 => ?_⟩
    · rw [tl_mkS] at hn
      walk_at "r"
      refine ⟨mkS b, rfl, by rw [tl_mkS]; omega, fun d hd v H3 e3 dv => ?_, fun hd H3 e3 => ?_⟩
      · rw [tl_mkS] at hd
        have ed' : dcL nvP (tl x) = some (mkS a, d) := by
          rw [ed]
          show (if nmL a = true then (kdL nvP b).map fun k => (mkS a, k) else none) = _
          rw [if_pos hn, hd]
          rfl
        have nv : v ≠ .non := kd_nn hd dv
        walk_at "r"
        refine a_isNv nv ?_
        walk_at "r"
        refine new_tup (xs := [.str (mkS a), v]) (by simp) fun p2 H4 n4 e4 f4 => ?_
        have E3 := e1.trans (e2.trans e3)
        exact qy _ ed' p2 v H4 (ex_none E3 n4) (E3.trans e4) f4 (dp_ex e4 dv)
      · rw [tl_mkS] at hd
        have ed' : dcL nvP (tl x) = none := by
          rw [ed]
          show (if nmL a = true then (kdL nvP b).map fun k => (mkS a, k) else none) = _
          rw [if_pos hn, hd]
          rfl
        walk_at "r"
        exact qn ed' H3 (e1.trans (e2.trans e3))
    · rw [tl_mkS] at hn
      have ed' : dcL nvP (tl x) = none := by
        rw [ed]
        show (if nmL a = true then (kdL nvP b).map fun k => (mkS a, k) else none) = _
        rw [if_neg (by rw [hn]; simp)]
      walk_at "r"
      refine ⟨mkS b, rfl, by rw [tl_mkS]; omega, fun d hd v H3 e3 dv => ?_, fun hd H3 e3 => ?_⟩
      · walk_at "r"
        exact qn ed' H3 (e1.trans (e2.trans e3))
      · walk_at "r"
        exact qn ed' H3 (e1.trans (e2.trans e3))
end
section
variable {P : Program} {w : World} {K : PySem.W.Frag} {mg : Str → Option Value} {base : Heap}
open TL
theorem dw_len (l : Ln) : (l.dropWhile (· == 42)).length ≤ l.length := (List.dropWhile_sublist _).length_le
def pPr (K : PySem.W.Frag) : Sp := fun vs H Q _ => ∃ x, vs = [.str x] ∧ (tl x).length ≤ 50000 ∧ (∀ q, plL (tl x) = some q → ∀ p H1, Ex H H1 → H1 p = some (.tup [.str q.1, .int (q.2 : Nat)]) → Q (.ref p) H1) ∧ (plL (tl x) = none → ∀ H1, Ex H H1 → Q .non H1)
theorem ok_place_read (T : Tx K mg) : FnOk P w K mg base CX0 3 T.a_place_read T.e_place_read p_place_read (pPr K) := by
  refine T.d_place_read.F.ok sc_place_read (fun vs H Q E h => ?_) (fun cdv A outer s H vs Q E hr h => ?_)
  · obtain ⟨x, rfl, _⟩ := h
    rfl
  obtain ⟨x, rfl, hl, qy, qn⟩ := h
  refine ⟨_, (pss_cons (ps_set (i := 1) sc_place_read.nd rfl (.inl rfl) (pe_m1 PySem.F.slot_str_lstrip PySem.F.type_str_lstrip mtLsC (pv 0) pe_str))
    (pss_cons (ps_set (i := 2) sc_place_read.nd rfl (.inl rfl) (pe_call (ok_name_read T) (hr.mono (by omega)) (by rfl) T.d_name_read.m T.d_name_read.F.kp T.d_name_read.b .nil pass0 (pa_cons (pv 1) pa_nil)))
    (pss_cons (ps_if (pt_cmpR k_isN (pv 2) pe_non (nomark _)) (pss_one (ps_ret pe_non)) pss_nil)
    (pss_one (ps_ret (pe_tup (pa_cons (pv 2) (pa_cons (pe_op op_sub (pe_callB k_lenS (by rfl) T.b_len PySem.boot_len (pa_cons (pv 0) pa_nil)) (pe_callB k_lenS (by rfl) T.b_len PySem.boot_len (pa_cons (pv 1) pa_nil))) pa_nil)))))))), ?_⟩
  have ld := dw_len (tl x)
  have hx := len_tl x
  have ep : plL (tl x) = if nmL ((tl x).dropWhile (· == 42)) = true then some (mkS ((tl x).dropWhile (· == 42)), (tl x).length - ((tl x).dropWhile (· == 42)).length) else none := rfl
  walk_at "r"
  refine ⟨⟨_, rfl⟩, ?_⟩
  walk_at "r"
  refine a_lst hl ?_
  walk_at "r"
  refine ⟨_, rfl, by rw [tl_mkS]; omega, fun hn H1 e1 => ?_, fun hn H1 e1 => ?_⟩
  · rw [tl_mkS] at hn
    rw [if_pos hn] at ep
    walk_at "r"
    refine a_lenS (by omega) ?_
    walk_at "r"
    refine a_lenS (by rw [mkS_len]; omega) ?_
    walk_at "r"
    rw [show (x.length : Int) - ((mkS ((tl x).dropWhile (· == 42))).length : Nat) = (((tl x).length - ((tl x).dropWhile (· == 42)).length : Nat) : Int) from by rw [mkS_len]; omega]
    refine new_tup (xs := [.str (mkS ((tl x).dropWhile (· == 42))), .int (((tl x).length - ((tl x).dropWhile (· == 42)).length : Nat) : Int)]) (by simp) fun p H2 n2 e2 f2 => ?_
    exact qy _ ep p H2 (e1.trans e2) f2
  · rw [tl_mkS] at hn
    rw [if_neg (by rw [hn]; simp)] at ep
    walk_at "r"
    exact qn ep H1 e1
def pSr (K : PySem.W.Frag) : Sp := fun vs H Q _ => ∃ x, vs = [.str x] ∧ (tl x).length ≤ 50000 ∧ (∀ d, srL nvP (tl x) = some d → ∀ p H1, Ex H H1 → Dp K H1 (.ref p) d → Q (.ref p) H1) ∧ (srL nvP (tl x) = none → ∀ H1, Ex H H1 → Q .non H1)
theorem ok_source_read (T : Tx K mg) : FnOk P w K mg base CX0 4 T.a_source_read T.e_source_read p_source_read (pSr K) := by
  refine T.d_source_read.F.ok sc_source_read (fun vs H Q E h => ?_) (fun cdv A outer s H vs Q E hr h => ?_)
  · obtain ⟨x, rfl, _⟩ := h
    rfl
  obtain ⟨x, rfl, hl, qy, qn⟩ := h
  refine ⟨_, (pss_cons (ps_if (pt_cmpR op_eq (pv 0) pe_str (nomark _)) (pss_one (ps_ret (pe_tup (pa_cons pe_str pa_nil)))) pss_nil)
    (pss_cons (ps_set (i := 1) sc_source_read.nd rfl (.inl rfl) (pe_call (ok_number_read T) (hr.mono (by omega)) (by rfl) T.d_number_read.m T.d_number_read.F.kp T.d_number_read.b .nil pass0 (pa_cons (pv 0) pa_nil)))
    (pss_cons (ps_if (pt_cmpR k_notN (pv 1) pe_non (nomark _)) (pss_one (ps_ret (pe_tup (pa_cons pe_str (pa_cons (pv 1) pa_nil))))) pss_nil)
    (pss_cons (ps_set (i := 2) sc_source_read.nd rfl (.inl rfl) pe_str)
    (pss_cons (ps_if (pt_val (pe_m1 PySem.F.slot_str_startswith PySem.F.type_str_startswith mtStW (pv 0) pe_str)) (pss_cons (ps_set (i := 2) sc_source_read.nd rfl (.inl rfl) pe_str)
    (pss_one (ps_set (i := 0) sc_source_read.nd rfl (.inl rfl) (pe_slice sl_str (pv 0) (po_some pe_int) po_none)))) pss_nil)
    (pss_cons (ps_set (i := 3) sc_source_read.nd rfl (.inl rfl) (pe_call (ok_place_read T) (hr.mono (by omega)) (by rfl) T.d_place_read.m T.d_place_read.F.kp T.d_place_read.b .nil pass0 (pa_cons (pv 0) pa_nil)))
    (pss_cons (ps_if (pt_cmpR k_isN (pv 3) pe_non (nomark _)) (pss_one (ps_ret pe_non)) pss_nil)
    (pss_one (ps_ret (pe_tup (pa_cons (pv 2) (pa_cons (pv 3) pa_nil)))))))))))), ?_⟩
  have es : srL nvP (tl x) = if tl x = tl "null" then some (.tuple [.str "null"]) else if nuL (tl x) = true then some (.tuple [.str "number", .int (nvP (tl x))]) else if (tl x).head? = some 38 then (plL (tl x).tail).map fun q => .tuple [.str "address", plD q.1 q.2] else (plL (tl x)).map fun q => .tuple [.str "value", plD q.1 q.2] := rfl
  walk_at "r"
  refine ite2 (fun y => ?_) (fun y => ?_)
  · have y1 : x = "null" := of_decide_eq_true y
    rw [if_pos (by rw [y1])] at es
    walk_at "r"
    refine new_tup (xs := [.str "null"]) (by simp) fun p H1 n1 e1 f1 => ?_
    exact qy _ es p H1 e1 (.tup (SqT.of f1) (.cons (.str _) .nil))
  · have y1 : ¬ tl x = tl "null" := fun z => y (decide_eq_true (ext_tl z))
    rw [if_neg y1] at es
    walk_at "r"
    refine ⟨x, rfl, hl, fun hn H1 e1 => ?_, fun hn H1 e1 => ?_⟩
    · rw [if_pos hn] at es
      walk_at "r"
      refine new_tup (xs := [.str "number", .int (nvP (tl x) : Nat)]) (by simp) fun p H2 n2 e2 f2 => ?_
      exact qy _ es p H2 (e1.trans e2) (.tup (SqT.of f2) (.cons (.str _) (.cons (.int _) .nil)))
    · rw [if_neg (by rw [hn]; simp)] at es
      walk_at "r"
      refine ⟨⟨_, rfl⟩, ?_⟩
      walk_at "r"
      refine a_stw ?_
      have s38 : tl "&" = [38] := by decide +kernel
      have eh : (decide ((tl x).take (tl "&").length = tl "&")) = decide ((tl x).head? = some 38) := by
        rw [s38]
        refine decide_eq_decide.mpr ?_
        cases tl x with
        | nil => simp
        | cons c r => simp
      rw [eh]
      walk_at "r"
      refine ite2 (fun y2 => ?_) (fun y2 => ?_)
      · have h38 := of_decide_eq_true y2
        rw [if_pos h38] at es
        walk_at "r"
        refine a_cutS (r := (tl x).tail) hl (by rw [show (1 : Int) = ((1 : Nat) : Int) from rfl, cut_from, List.drop_one]) ?_
        walk_at "r"
        refine ⟨_, rfl, by rw [tl_mkS, List.length_tail]; omega, fun q hq p H2 e2 f2 => ?_, fun hq H2 e2 => ?_⟩
        · rw [tl_mkS] at hq
          rw [hq] at es
          walk_at "r"
          refine new_tup (xs := [.str "address", .ref p]) (by simp) fun p3 H3 n3 e3 f3 => ?_
          exact qy _ es p3 H3 (e1.trans (e2.trans e3)) (.tup (SqT.of f3) (.cons (.str _) (.cons (.tup (SqT.of (e3 _ _ f2)) (.cons (.str _) (.cons (.int _) .nil))) .nil)))
        · rw [tl_mkS] at hq
          rw [hq] at es
          walk_at "r"
          exact qn es H2 (e1.trans e2)
      · have h38 : ¬ (tl x).head? = some 38 := fun z => y2 (decide_eq_true z)
        rw [if_neg h38] at es
        walk_at "r"
        refine ⟨x, rfl, hl, fun q hq p H2 e2 f2 => ?_, fun hq H2 e2 => ?_⟩
        · rw [hq] at es
          walk_at "r"
          refine new_tup (xs := [.str "value", .ref p]) (by simp) fun p3 H3 n3 e3 f3 => ?_
          exact qy _ es p3 H3 (e1.trans (e2.trans e3)) (.tup (SqT.of f3) (.cons (.str _) (.cons (.tup (SqT.of (e3 _ _ f2)) (.cons (.str _) (.cons (.int _) .nil))) .nil)))
        · rw [hq] at es
          walk_at "r"
          exact qn es H2 (e1.trans e2)
def pCdr (K : PySem.W.Frag) : Sp := fun vs H Q _ => ∃ x, vs = [.str x] ∧ (tl x).length ≤ 50000 ∧ (∀ q, clL (tl x) = some q → ∀ p l H1, Ex H H1 → H1 p = some (.tup [.str q.1, .ref l]) → H1 l = some (.lst (slV q.2)) → Q (.ref p) H1) ∧ (clL (tl x) = none → ∀ H1, Ex H H1 → Q .non H1)
theorem ok_called_read (T : Tx K mg) : FnOk P w K mg base CX0 3 T.a_called_read T.e_called_read p_called_read (pCdr K) := by
  refine T.d_called_read.F.ok sc_called_read (fun vs H Q E h => ?_) (fun cdv A outer s H vs Q E hr h => ?_)
  · obtain ⟨x, rfl, _⟩ := h
    rfl
  obtain ⟨x, rfl, hl, qy, qn⟩ := h
  refine ⟨_, (pss_cons (ps_asg (pe_m1 PySem.F.slot_str_partition PySem.F.type_str_partition mtPar (pv 0) pe_str) (pg_tup (by rfl) (pgs_cons (pg_name (i := 1) sc_called_read.nd rfl (.inl rfl)) (pgs_cons (pg_name (i := 2) sc_called_read.nd rfl (.inl rfl)) (pgs_cons (pg_name (i := 3) sc_called_read.nd rfl (.inl rfl)) pgs_nil)))))
    (pss_cons (ps_set (i := 4) sc_called_read.nd rfl (.inl rfl) (pe_call (ok_name_read T) (hr.mono (by omega)) (by rfl) T.d_name_read.m T.d_name_read.F.kp T.d_name_read.b .nil pass0 (pa_cons (pv 1) pa_nil)))
    (pss_cons (ps_if (PW.pt (pw_or (pt_cmpR k_isN (pv 4) pe_non (nomark _)) (pw_or1 (pt_not (pt_val (pe_m1 PySem.F.slot_str_endswith PySem.F.type_str_endswith mtEnW (pv 3) pe_str)))))) (pss_one (ps_ret pe_non)) pss_nil)
    (pss_cons (ps_set (i := 5) sc_called_read.nd rfl (.inl rfl) (pe_slice sl_str (pv 3) po_none (po_some (pe_un un_neg pe_int))))
    (pss_cons (ps_if (pt_cmpR op_eq (pv 5) pe_str (nomark _)) (pss_one (ps_ret (pe_tup (pa_cons (pv 4) (pa_cons (pe_lst pa_nil) pa_nil))))) pss_nil)
    (pss_one (ps_ret (pe_tup (pa_cons (pv 4) (pa_cons (pe_m1 PySem.F.slot_str_split PySem.F.type_str_split mtSpl (pv 5) pe_str) pa_nil)))))))))), ?_⟩
  have sS : tl "(" = [40] := by decide +kernel
  have s41 : tl ")" = [41] := by decide +kernel
  have hS : tl "(" ≠ [] := by rw [sS]; simp
  have ec : clL (tl x) = match par [40] [] (tl x) with
    | none => none
    | some (a, b) => if (nmL a && decide (b.getLast? = some 41)) = true then some (mkS a, ptsL b.dropLast) else none := rfl
  rw [← sS] at ec
  walk_at "r"
  refine ⟨⟨_, rfl⟩, ?_⟩
  walk_at "r"
  refine a_par hS hl fun p H1 n1 e1 f1 => ?_
  cases hp : par (tl "(") [] (tl x) with
  | none =>
    rw [hp] at ec
    rw [part_none hS hp] at f1
    refine w_gtup (xs := [.str x, .str Str.empty, .str Str.empty]) (SqT.of f1) rfl ?_
    walk_at "r"
    refine ⟨x, rfl, hl, fun hn H2 e2 => ?_, fun hn H2 e2 => ?_⟩
    · walk_at "r"
      refine ⟨⟨_, rfl⟩, ?_⟩
      walk_at "r"
      refine a_enw s41 ?_
      rw [tl_empty, decide_eq_false (show ¬ ([] : Ln).getLast? = some 41 from by simp)]
      walk_at "r"
      exact qn ec H2 (e1.trans e2)
    · walk_at "r"
      exact qn ec H2 (e1.trans e2)
  | some ab =>
    obtain ⟨a, b⟩ := ab
    rw [hp] at ec
    have pl := par_len hp
    rw [part_some hS hp] at f1
    refine w_gtup (xs := [.str (mkS a), .str "(", .str (mkS b)]) (SqT.of f1) rfl ?_
    walk_at "r"
    refine ⟨mkS a, rfl, by rw [tl_mkS]; omega, fun hn H2 e2 => ?_, fun hn H2 e2 => ?_⟩
    · rw [tl_mkS] at hn
      walk_at "r"
      refine ⟨⟨_, rfl⟩, ?_⟩
      walk_at "r"
      refine a_enw s41 ?_
      rw [tl_mkS]
      have ec' : clL (tl x) = if (nmL a && decide (b.getLast? = some 41)) = true then some (mkS a, ptsL b.dropLast) else none := ec
      rw [hn, Bool.true_and] at ec'
      by_cases h41 : b.getLast? = some 41
      · rw [decide_eq_true h41] at ec' ⊢
        rw [if_pos rfl] at ec'
        walk_at "r"
        refine a_cutS (r := b.dropLast) (by rw [tl_mkS]; omega) (cut_but0 (mkS b)) ?_
        walk_at "r"
        have ld : b.dropLast.length ≤ b.length := by rw [List.length_dropLast]; omega
        refine ite2 (fun y => ?_) (fun y => ?_)
        · have y1 : b.dropLast = [] := by
            have := congrArg tl (of_decide_eq_true y)
            exact this
          walk_at "r"
          refine new_lst (xs := []) (by simp) fun l H3 n3 e3 f3 => ?_
          walk_at "r"
          refine new_tup (xs := [.str (mkS a), .ref l]) (by simp) fun p4 H4 n4 e4 f4 => ?_
          refine qy _ ec' p4 l H4 (e1.trans (e2.trans (e3.trans e4))) f4 ?_
          have : ptsL b.dropLast = [] := by unfold ptsL; rw [if_pos y1]
          show H4 l = some (.lst (slV (ptsL b.dropLast)))
          rw [this]
          exact e4 _ _ f3
        · have y1 : ¬ b.dropLast = [] := fun z => y (decide_eq_true (by rw [z]; rfl))
          walk_at "r"
          refine ⟨⟨_, rfl⟩, ?_⟩
          walk_at "r"
          refine a_spl (by rw [sCom]; simp) (by decide +kernel) (by rw [tl_mkS]; omega) fun l H3 n3 e3 f3 => ?_
          walk_at "r"
          refine new_tup (xs := [.str (mkS a), .ref l]) (by simp) fun p4 H4 n4 e4 f4 => ?_
          refine qy _ ec' p4 l H4 (e1.trans (e2.trans (e3.trans e4))) f4 ?_
          have : ptsL b.dropLast = spl (tl ", ") 0 [] b.dropLast := by unfold ptsL; rw [if_neg y1]
          show H4 l = some (.lst (slV (ptsL b.dropLast)))
          rw [this, e4 _ _ f3]
          unfold slV
          rw [List.map_map, tl_mkS]
          rfl
      · rw [decide_eq_false h41] at ec' ⊢
        rw [if_neg (by simp)] at ec'
        walk_at "r"
        exact qn ec' H2 (e1.trans e2)
    · rw [tl_mkS] at hn
      have ec' : clL (tl x) = if (nmL a && decide (b.getLast? = some 41)) = true then some (mkS a, ptsL b.dropLast) else none := ec
      rw [hn, Bool.false_and, if_neg (by simp)] at ec'
      walk_at "r"
      exact qn ec' H2 (e1.trans e2)
end
section
variable {P : Program} {w : World} {K : PySem.W.Frag} {mg : Str → Option Value} {base : Heap}
open TL
theorem a_nIn {α : Type} {K : PySem.W.Frag} {H : Hp} {Q : VK} {l : Addr} {vs : List V} {ls : List α} {f : α → Option PyData} {n : Nat} (h : SqL K H l vs) (d : DpAll K H vs (ls.map fun a => oD (f a))) (fi : ∀ a ∈ ls, ∀ d, f a = some d → Fine n d ∧ PyData.eqv d .none = false) (n30 : n ≤ 30) (hc : ls.length ≤ 100000) (q : Q (.bl (oAll f ls).isNone) H) : rInD K .non (.ref l) H Q := by
  have fl : Fine (n + 1) (.list (ls.map fun a => oD (f a))) := fine_lst (fun d m => by
    obtain ⟨a, ma, rfl⟩ := List.mem_map.mp m
    cases hf : f a with
    | none => exact fine_none.mono (Nat.zero_le _)
    | some d => exact (fi a ma d hf).1) (by rw [List.length_map]; exact hc)
  refine ⟨.none, _, .non, .lst h d, (fine_shp fine_none (by decide)).1, (fine_shp fl (by omega)).1, ?_⟩
  rw [oAll_any fun a ma d hf => (fi a ma d hf).2]
  exact q
def pHd (K : PySem.W.Frag) : Sp := fun vs H Q _ => ∃ x, vs = [.str x] ∧ (tl x).length ≤ 50000 ∧ (∀ q, hdL nvP (tl x) = some q → ∀ p l ws H1, Ex H H1 → H l = none → H1 p = some (.tup [.str q.1, .ref l]) → H1 l = some (.lst ws) → DpAll K H1 ws q.2 → Q (.ref p) H1) ∧ (hdL nvP (tl x) = none → ∀ H1, Ex H H1 → Q .non H1)
theorem ok_head_read (T : Tx K mg) : FnOk P w K mg base CX0 5 T.a_head_read T.e_head_read p_head_read (pHd K) := by
  refine T.d_head_read.F.ok sc_head_read (fun vs H Q E h => ?_) (fun cdv A outer s H vs Q E hr h => ?_)
  · obtain ⟨x, rfl, _⟩ := h
    rfl
  obtain ⟨x, rfl, hl, qy, qn⟩ := h
  have hu := hu_of hr
  refine ⟨_, (pss_cons (ps_if (pt_not (pt_val (pe_m1 PySem.F.slot_str_startswith PySem.F.type_str_startswith mtStW (pv 0) pe_str))) (pss_one (ps_ret pe_non)) pss_nil)
    (pss_cons (ps_set (i := 1) sc_head_read.nd rfl (.inl rfl) (pe_call (ok_called_read T) (hr.mono (by omega)) (by rfl) T.d_called_read.m T.d_called_read.F.kp T.d_called_read.b .nil pass0 (pa_cons (pe_slice sl_str (pv 0) (po_some pe_int) po_none) pa_nil)))
    (pss_cons (ps_if (pt_cmpR k_isN (pv 1) pe_non (nomark _)) (pss_one (ps_ret pe_non)) pss_nil)
    (pss_cons (ps_asg (pv 1) (pg_tup (by rfl) (pgs_cons (pg_name (i := 2) sc_head_read.nd rfl (.inl rfl)) (pgs_cons (pg_name (i := 3) sc_head_read.nd rfl (.inl rfl)) pgs_nil))))
    (pss_cons (ps_setLc (i := 4) (own := [("part", 5)]) (g := gName 5) rfl sc_head_read.nd rfl rfl (sw_true rfl rfl rfl (by decide +kernel)) (plK K (pv 3)) (blkOk_by (own := [("part", 5)]) (N := n_head_read) (sc := defScope s_head_read) (by decide +kernel)) (fun _ _ _ _ _ => (pg_name (i := 5) sc_head_read.nd rfl (Or.inl rfl))) (fun _ _ _ _ _ => pts_nil) (fun _ _ _ _ _ => (pe_call (ok_declared_read T) (hr.mono (by omega)) (by rfl) T.d_declared_read.m T.d_declared_read.F.kp T.d_declared_read.b .nil pass0 (pa_cons (pv 5) pa_nil))))
    (pss_cons (ps_if (pt_cmpR (inDK K (hd_of hr)) pe_non (pv 4) (by rfl)) (pss_one (ps_ret pe_non)) pss_nil)
    (pss_one (ps_ret (pe_tup (pa_cons (pv 2) (pa_cons (pv 4) pa_nil))))))))))), ?_⟩
  have l4 : (tl "def ").length = 4 := by decide +kernel
  have eh : hdL nvP (tl x) = if (tl x).take 4 = tl "def " then (clL ((tl x).drop 4)).bind fun q => (oAll (dcL nvP) q.2).map fun ps => (q.1, ps.map dcD) else none := rfl
  walk_at "r"
  refine ⟨⟨_, rfl⟩, ?_⟩
  walk_at "r"
  refine a_stw ?_
  rw [l4]
  walk_at "r"
  by_cases c : (tl x).take 4 = tl "def "
  · rw [if_pos c] at eh
    rw [decide_eq_true c]
    walk_at "r"
    have ld : ((tl x).drop 4).length ≤ 50000 := by rw [List.length_drop]; omega
    refine a_cutS (r := (tl x).drop 4) hl (cut_from x 4) ?_
    walk_at "r"
    refine ⟨_, rfl, by rw [tl_mkS]; exact ld, fun q hq p l H1 e1 f1 f2 => ?_, fun hq H1 e1 => ?_⟩
    · rw [tl_mkS] at hq
      rw [hq] at eh
      obtain ⟨fi1, fi2, fi3⟩ := cl_fine hq ld
      walk_at "r"
      refine w_gtup (xs := [.str q.1, .ref l]) (SqT.of f1) rfl ?_
      walk_at "r"
      refine c_L (SqL.of f2) ?_
      refine cp_list (xs := slV q.2) (fun d j hh => Ex H1 hh ∧ ∃ ws, hh d = some (.lst ws) ∧ DpAll K hh ws ((q.2.take j).map fun a => oD ((dcL nvP a).map dcD))) (fun d n => ⟨Ex.new n, [], upd_same, .nil⟩) (fun d j hh _ _ y => SqL.of (y.1 _ _ f2)) ?_ ?_
      · rintro d j u hh nd hj ⟨Y, ws, fd, dw⟩
        obtain ⟨pt, hpt, rfl⟩ := slV_at hj
        have jl := at_lt hpt
        have sl := (fi3 pt (List.mem_of_getElem? hpt)).length_le
        have lw := dpa_len dw
        rw [List.length_map, List.length_take] at lw
        have ntw : ntA ((q.2.take j).map fun a => oD ((dcL nvP a).map dcD)) = true := by
          have key : ∀ ls : List Ln, (∀ a ∈ ls, a.length ≤ 50000) → ntA (ls.map fun a => oD ((dcL nvP a).map dcD)) = true := by
            intro ls
            induction ls with
            | nil => intro _; rfl
            | cons a ls ih =>
              intro h
              show (ntD (oD ((dcL nvP a).map dcD)) && _) = true
              rw [show ntA (ls.map fun a => oD ((dcL nvP a).map dcD)) = true from ih fun b m => h b (List.mem_cons_of_mem _ m), Bool.and_true]
              cases hd : dcL nvP a with
              | none => rfl
              | some q => exact (dc_fine hd (h a (List.mem_cons_self ..))).2.1
          exact key _ fun a ma => by
            have := (fi3 a (List.mem_of_mem_take ma)).length_le
            omega
        walk_at "r"
        refine ⟨rfl, ?_⟩
        walk_at "r"
        refine ⟨mkS pt, rfl, by rw [tl_mkS]; omega, fun q2 hq2 p2 u2 H2 n2 e2 f2' du => ?_, fun hq2 H2 e2 => ?_⟩
        · rw [tl_mkS] at hq2
          have kt := Kt.mut (o := .lst (ws ++ [.ref p2])) (e2 _ _ fd)
          refine ⟨ws, e2 _ _ fd, sz_lt (by omega), (Y.trans e2).mut nd, _, upd_same, ?_⟩
          rw [take_snoc hpt, List.map_append]
          refine dpa_snoc (dpa_kt kt (dpa_ex e2 dw) ntw) ?_
          show Dp K _ _ (oD ((dcL nvP pt).map dcD))
          rw [hq2]
          exact dp_kt kt (.tup (SqT.of f2') (.cons (.str _) (.cons du .nil))) (dc_fine hq2 (by omega)).2.1
        · rw [tl_mkS] at hq2
          have kt := Kt.mut (o := .lst (ws ++ [.non])) (e2 _ _ fd)
          refine ⟨ws, e2 _ _ fd, sz_lt (by omega), (Y.trans e2).mut nd, _, upd_same, ?_⟩
          rw [take_snoc hpt, List.map_append]
          refine dpa_snoc (dpa_kt kt (dpa_ex e2 dw) ntw) ?_
          show Dp K _ _ (oD ((dcL nvP pt).map dcD))
          rw [hq2]
          exact .non
      rintro d hh nd ⟨Y, ws, fd, dw⟩
      rw [slV_len, List.take_length] at dw
      walk_at "r"
      have fi : ∀ a ∈ q.2, ∀ d, (dcL nvP a).map dcD = some d → Fine 2 d ∧ PyData.eqv d .none = false := fun a ma d hd => by
        have la := (fi3 a ma).length_le
        cases hq2 : dcL nvP a with
        | none => rw [hq2] at hd; cases hd
        | some q2 =>
          rw [hq2] at hd
          cases hd
          exact ⟨(dc_fine hq2 (by omega)).1, rfl⟩
      refine a_nIn (SqL.of fd) dw fi (by decide) (by omega) ?_
      have eo : hdL nvP (tl x) = (oAll (fun a => (dcL nvP a).map dcD) q.2).map fun m => (q.1, m) := by
        rw [eh, oAll_comp, Option.map_map]
        rfl
      walk_at "r"
      cases ho : oAll (fun a => (dcL nvP a).map dcD) q.2 with
      | none =>
        rw [ho] at eo
        show if true = true then _ else _
        walk_at "r"
        exact qn eo hh (e1.trans Y)
      | some m =>
        rw [ho] at eo
        rw [oAll_map ho] at dw
        show if false = true then _ else _
        walk_at "r"
        refine new_tup (xs := [.str q.1, .ref d]) (by simp) fun p4 H4 n4 e4 f4 => ?_
        exact qy _ eo p4 d ws H4 (e1.trans (Y.trans e4)) (ex_none e1 nd) f4 (e4 _ _ fd) (dpa_ex e4 dw)
    · rw [tl_mkS] at hq
      rw [hq] at eh
      walk_at "r"
      exact qn eh H1 e1
  · rw [if_neg c] at eh
    rw [decide_eq_false c]
    walk_at "r"
    exact qn eh H (Ex.refl _)
end
section
variable {P : Program} {w : World} {K : PySem.W.Frag} {mg : Str → Option Value} {base : Heap}
open TL
theorem sr_nil (nv : NV) : srL nv [] = none := by
  unfold srL
  rw [if_neg (by rw [show tl "null" = [110, 117, 108, 108] from by decide +kernel]; simp), if_neg (by intro z; cases z), if_neg (by simp)]
  rfl
theorem sr_tup {nv : NV} {l : Ln} {d : PyData} (h : srL nv l = some d) : ∃ ds, d = .tuple ds := by
  unfold srL at h
  split at h
  · exact ⟨_, (Option.some.inj h).symm⟩
  · split at h
    · exact ⟨_, (Option.some.inj h).symm⟩
    · split at h
      · cases hp : plL l.tail with
        | none => rw [hp] at h; cases h
        | some q => rw [hp] at h; exact ⟨_, (Option.some.inj h).symm⟩
      · cases hp : plL l with
        | none => rw [hp] at h; cases h
        | some q => rw [hp] at h; exact ⟨_, (Option.some.inj h).symm⟩
/-- a set of what can change -/
def Mu (M : List Addr) (H : Hp) : Prop := ∀ x ∈ M, ∃ o, H x = some o ∧ isT o = false
theorem Mu.ex {M : List Addr} {H H1 : Hp} (m : Mu M H) (e : Ex H H1) : Mu M H1 := fun x hx => by
  obtain ⟨o, h1, h2⟩ := m x hx
  exact ⟨o, e _ _ h1, h2⟩
theorem Mu.nil (H : Hp) : Mu [] H := fun x hx => absurd hx (by simp)
theorem Mu.nin {M : List Addr} {H : Hp} (m : Mu M H) {p : Addr} (n : H p = none) : p ∉ M := fun z => by
  obtain ⟨o, h1, _⟩ := m p z
  rw [n] at h1
  cases h1
theorem Mu.tup {M : List Addr} {H : Hp} (m : Mu M H) {p : Addr} {xs : List V} (n : H p = some (.tup xs)) : p ∉ M := fun z => by
  obtain ⟨o, h1, h2⟩ := m p z
  rw [n] at h1
  cases h1
  cases h2
theorem Mu.im {M : List Addr} {H : Hp} (m : Mu M H) : Ex (Im H) (dl M H) := fun a o h => by
  obtain ⟨h1, h2⟩ := im_of h
  rw [dl_nin (fun z => by
    obtain ⟨u, u1, u2⟩ := m a z
    rw [h1] at u1
    cases u1
    rw [h2] at u2
    cases u2)]
  exact h1
theorem Mu.dp {K : PySem.W.Frag} {M : List Addr} {H : Hp} (m : Mu M H) {v : V} {d : PyData} (h : Dp K H v d) (n : ntD d = true) : Dp K (dl M H) v d := dp_ex m.im (dp_im h n)
theorem Mu.dpa {K : PySem.W.Frag} {M : List Addr} {H : Hp} (m : Mu M H) : ∀ {vs : List V} {ds : List PyData}, DpAll K H vs ds → ntA ds = true → DpAll K (dl M H) vs ds
  | _, _, .nil, _ => .nil
  | _, _, .cons h t, n => by
    have n' := (Bool.and_eq_true _ _ ▸ n : _ ∧ _)
    exact .cons (m.dp h n'.1) (m.dpa t n'.2)
theorem nt_all {ds : List PyData} (h : ∀ d ∈ ds, ntD d = true) : ntA ds = true := by
  induction ds with
  | nil => rfl
  | cons d ds ih =>
    show (ntD d && ntA ds) = true
    rw [h d (List.mem_cons_self ..), ih fun x m => h x (List.mem_cons_of_mem _ m)]
    rfl
theorem oAll_src {α β : Type} {f : α → Option β} : ∀ {l : List α} {m : List β}, oAll f l = some m → ∀ b ∈ m, ∃ a ∈ l, f a = some b
  | [], m, h, b, hb => by
    cases h
    exact absurd hb (by simp)
  | a :: l, m, h, b, hb => by
    unfold oAll at h
    cases hf : f a with
    | none => rw [hf] at h; cases h
    | some c =>
      cases hl : oAll f l with
      | none => rw [hf, hl] at h; cases h
      | some n =>
        rw [hf, hl] at h
        cases h
        rcases List.mem_cons.mp hb with rfl | hb
        · exact ⟨a, List.mem_cons_self .., hf⟩
        · obtain ⟨x, m1, m2⟩ := oAll_src hl b hb
          exact ⟨x, List.mem_cons_of_mem _ m1, m2⟩
def pSd (K : PySem.W.Frag) (f : Ln → Option PyData) : Sp := fun vs H Q _ => ∃ x, vs = [.str x] ∧ (tl x).length ≤ 50000 ∧ (∀ d, f (tl x) = some d → ∀ p H1, Ex H H1 → (∀ M, Mu M H → Dp K (dl M H1) (.ref p) d) → Q (.ref p) H1) ∧ (f (tl x) = none → ∀ H1, Ex H H1 → Q .non H1)
theorem ok_let_read (T : Tx K mg) : FnOk P w K mg base CX0 5 T.a_let_read T.e_let_read p_let_read (pSd K (ltL nvP)) := by
  refine T.d_let_read.F.ok sc_let_read (fun vs H Q E h => ?_) (fun cdv A outer s H vs Q E hr h => ?_)
  · obtain ⟨x, rfl, _⟩ := h
    rfl
  obtain ⟨x, rfl, hl, qy, qn⟩ := h
  refine ⟨_, (pss_cons (ps_asg (pe_m1 PySem.F.slot_str_partition PySem.F.type_str_partition mtPar (pv 0) pe_str) (pg_tup (by rfl) (pgs_cons (pg_name (i := 1) sc_let_read.nd rfl (.inl rfl)) (pgs_cons (pg_name (i := 2) sc_let_read.nd rfl (.inl rfl)) (pgs_cons (pg_name (i := 3) sc_let_read.nd rfl (.inl rfl)) pgs_nil)))))
    (pss_cons (ps_set (i := 4) sc_let_read.nd rfl (.inl rfl) (pe_call (ok_declared_read T) (hr.mono (by omega)) (by rfl) T.d_declared_read.m T.d_declared_read.F.kp T.d_declared_read.b .nil pass0 (pa_cons (pv 1) pa_nil)))
    (pss_cons (ps_set (i := 5) sc_let_read.nd rfl (.inl rfl) (pe_call (ok_source_read T) (hr.mono (by omega)) (by rfl) T.d_source_read.m T.d_source_read.F.kp T.d_source_read.b .nil pass0 (pa_cons (pv 3) pa_nil)))
    (pss_cons (ps_if (PW.pt (pw_or (pt_cmpR k_isN (pv 4) pe_non (nomark _)) (pw_or1 (pt_cmpR k_isN (pv 5) pe_non (nomark _))))) (pss_one (ps_ret pe_non)) pss_nil)
    (pss_one (ps_ret (pe_op (catAK K) (pe_op (catAK K) (pe_tup (pa_cons pe_str pa_nil)) (pv 4)) (pe_tup (pa_cons (pv 5) pa_nil))))))))), ?_⟩
  have hS : tl " = " ≠ [] := by rw [sEq]; simp
  have el : ltL nvP (tl x) = match par (tl " = ") [] (tl x) with
    | none => none
    | some (a, b) => (dcL nvP a).bind fun q => (srL nvP b).map fun s => .tuple [.str "let", .str q.1, q.2, s] := rfl
  walk_at "r"
  refine ⟨⟨_, rfl⟩, ?_⟩
  walk_at "r"
  refine a_par hS hl fun p H1 n1 e1 f1 => ?_
  cases hp : par (tl " = ") [] (tl x) with
  | none =>
    rw [hp] at el
    rw [part_none hS hp] at f1
    refine w_gtup (xs := [.str x, .str Str.empty, .str Str.empty]) (SqT.of f1) rfl ?_
    walk_at "r"
    refine ⟨x, rfl, hl, fun q hq p2 u H2 n2 e2 f2 du => ?_, fun hq H2 e2 => ?_⟩
    · walk_at "r"
      refine ⟨Str.empty, rfl, by rw [tl_empty]; decide, fun d hd => ?_, fun _ H3 e3 => ?_⟩
      · rw [tl_empty, sr_nil] at hd
        cases hd
      · walk_at "r"
        exact qn el H3 (e1.trans (e2.trans e3))
    · walk_at "r"
      refine ⟨Str.empty, rfl, by rw [tl_empty]; decide, fun d hd => ?_, fun _ H3 e3 => ?_⟩
      · rw [tl_empty, sr_nil] at hd
        cases hd
      · walk_at "r"
        exact qn el H3 (e1.trans (e2.trans e3))
  | some ab =>
    obtain ⟨a, b⟩ := ab
    rw [hp] at el
    have el : ltL nvP (tl x) = (dcL nvP a).bind fun q => (srL nvP b).map fun s => .tuple [.str "let", .str q.1, q.2, s] := el
    have pl := par_len hp
    rw [part_some hS hp] at f1
    refine w_gtup (xs := [.str (mkS a), .str " = ", .str (mkS b)]) (SqT.of f1) rfl ?_
    walk_at "r"
    refine ⟨mkS a, rfl, by rw [tl_mkS]; omega, fun q hq p2 u H2 n2 e2 f2 du => ?_, fun hq H2 e2 => ?_⟩
    · rw [tl_mkS] at hq
      rw [hq] at el
      walk_at "r"
      refine ⟨mkS b, rfl, by rw [tl_mkS]; omega, fun d hd p3 H3 e3 dd => ?_, fun hd H3 e3 => ?_⟩
      · rw [tl_mkS] at hd
        rw [hd] at el
        walk_at "r"
        refine new_tup (xs := [.str "let"]) (by simp) fun p4 H4 n4 e4 f4 => ?_
        walk_at "r"
        have f2' := e4 _ _ (e3 _ _ f2)
        refine a_catA (SqT.of f4) (SqT.of f2') (by simp) fun p5 H5 e5 f5 => ?_
        walk_at "r"
        refine new_tup (xs := [.ref p3]) (by simp) fun p6 H6 n6 e6 f6 => ?_
        walk_at "r"
        refine a_catA (ex_st f5 e6) (SqT.of f6) (by simp) fun p7 H7 e7 f7 => ?_
        have E37 := e4.trans (e5.trans (e6.trans e7))
        refine qy _ el p7 H7 ((e1.trans (e2.trans e3)).trans E37) fun M mu => (mu.ex ((e1.trans (e2.trans e3)).trans E37)).dp (.tup f7 ?_) ?_
        · exact .cons (.str _) (.cons (.str _) (.cons (dp_ex (e3.trans E37) du) (.cons (dp_ex E37 dd) .nil)))
        · have n1 := (dc_fine hq (by omega)).2.1
          have n1' : (ntD q.2 && true) = true := n1
          have n2 := (sr_fine hd (by omega)).2
          show (ntD q.2 && (ntD d && true)) = true
          rw [n2]
          exact n1'
      · rw [tl_mkS] at hd
        rw [hd] at el
        walk_at "r"
        exact qn el H3 (e1.trans (e2.trans e3))
    · rw [tl_mkS] at hq
      rw [hq] at el
      walk_at "r"
      refine ⟨mkS b, rfl, by rw [tl_mkS]; omega, fun d hd p3 H3 e3 dd => ?_, fun hd H3 e3 => ?_⟩
      · walk_at "r"
        exact qn el H3 (e1.trans (e2.trans e3))
      · walk_at "r"
        exact qn el H3 (e1.trans (e2.trans e3))
theorem ok_put_read (T : Tx K mg) : FnOk P w K mg base CX0 5 T.a_put_read T.e_put_read p_put_read (pSd K (ptL nvP)) := by
  refine T.d_put_read.F.ok sc_put_read (fun vs H Q E h => ?_) (fun cdv A outer s H vs Q E hr h => ?_)
  · obtain ⟨x, rfl, _⟩ := h
    rfl
  obtain ⟨x, rfl, hl, qy, qn⟩ := h
  refine ⟨_, (pss_cons (ps_asg (pe_m1 PySem.F.slot_str_partition PySem.F.type_str_partition mtPar (pv 0) pe_str) (pg_tup (by rfl) (pgs_cons (pg_name (i := 1) sc_put_read.nd rfl (.inl rfl)) (pgs_cons (pg_name (i := 2) sc_put_read.nd rfl (.inl rfl)) (pgs_cons (pg_name (i := 3) sc_put_read.nd rfl (.inl rfl)) pgs_nil)))))
    (pss_cons (ps_set (i := 4) sc_put_read.nd rfl (.inl rfl) (pe_call (ok_place_read T) (hr.mono (by omega)) (by rfl) T.d_place_read.m T.d_place_read.F.kp T.d_place_read.b .nil pass0 (pa_cons (pv 1) pa_nil)))
    (pss_cons (ps_set (i := 5) sc_put_read.nd rfl (.inl rfl) (pe_call (ok_source_read T) (hr.mono (by omega)) (by rfl) T.d_source_read.m T.d_source_read.F.kp T.d_source_read.b .nil pass0 (pa_cons (pv 3) pa_nil)))
    (pss_cons (ps_if (PW.pt (pw_or (pt_cmpR k_isN (pv 4) pe_non (nomark _)) (pw_or1 (pt_cmpR k_isN (pv 5) pe_non (nomark _))))) (pss_one (ps_ret pe_non)) pss_nil)
    (pss_one (ps_ret (pe_tup (pa_cons pe_str (pa_cons (pv 4) (pa_cons (pv 5) pa_nil)))))))))), ?_⟩
  have hS : tl " = " ≠ [] := by rw [sEq]; simp
  have el : ptL nvP (tl x) = match par (tl " = ") [] (tl x) with
    | none => none
    | some (a, b) => (plL a).bind fun q => (srL nvP b).map fun s => .tuple [.str "put", plD q.1 q.2, s] := rfl
  walk_at "r"
  refine ⟨⟨_, rfl⟩, ?_⟩
  walk_at "r"
  refine a_par hS hl fun p H1 n1 e1 f1 => ?_
  cases hp : par (tl " = ") [] (tl x) with
  | none =>
    rw [hp] at el
    rw [part_none hS hp] at f1
    refine w_gtup (xs := [.str x, .str Str.empty, .str Str.empty]) (SqT.of f1) rfl ?_
    walk_at "r"
    refine ⟨x, rfl, hl, fun q hq p2 H2 e2 f2 => ?_, fun hq H2 e2 => ?_⟩
    · walk_at "r"
      refine ⟨Str.empty, rfl, by rw [tl_empty]; decide, fun d hd => ?_, fun _ H3 e3 => ?_⟩
      · rw [tl_empty, sr_nil] at hd
        cases hd
      · walk_at "r"
        exact qn el H3 (e1.trans (e2.trans e3))
    · walk_at "r"
      refine ⟨Str.empty, rfl, by rw [tl_empty]; decide, fun d hd => ?_, fun _ H3 e3 => ?_⟩
      · rw [tl_empty, sr_nil] at hd
        cases hd
      · walk_at "r"
        exact qn el H3 (e1.trans (e2.trans e3))
  | some ab =>
    obtain ⟨a, b⟩ := ab
    rw [hp] at el
    have el : ptL nvP (tl x) = (plL a).bind fun q => (srL nvP b).map fun s => .tuple [.str "put", plD q.1 q.2, s] := el
    have pl := par_len hp
    rw [part_some hS hp] at f1
    refine w_gtup (xs := [.str (mkS a), .str " = ", .str (mkS b)]) (SqT.of f1) rfl ?_
    walk_at "r"
    refine ⟨mkS a, rfl, by rw [tl_mkS]; omega, fun q hq p2 H2 e2 f2 => ?_, fun hq H2 e2 => ?_⟩
    · rw [tl_mkS] at hq
      rw [hq] at el
      walk_at "r"
      refine ⟨mkS b, rfl, by rw [tl_mkS]; omega, fun d hd p3 H3 e3 dd => ?_, fun hd H3 e3 => ?_⟩
      · rw [tl_mkS] at hd
        rw [hd] at el
        walk_at "r"
        refine new_tup (xs := [.str "put", .ref p2, .ref p3]) (by simp) fun p4 H4 n4 e4 f4 => ?_
        have E14 := e1.trans (e2.trans (e3.trans e4))
        refine qy _ el p4 H4 E14 fun M mu => (mu.ex E14).dp (.tup (SqT.of f4) ?_) ?_
        · exact .cons (.str _) (.cons (.tup (SqT.of (e4 _ _ (e3 _ _ f2))) (.cons (.str _) (.cons (.int _) .nil))) (.cons (dp_ex e4 dd) .nil))
        · have n2 := (sr_fine hd (by omega)).2
          show (ntD d && true) = true
          rw [n2]
          rfl
      · rw [tl_mkS] at hd
        rw [hd] at el
        walk_at "r"
        exact qn el H3 (e1.trans (e2.trans e3))
    · rw [tl_mkS] at hq
      rw [hq] at el
      walk_at "r"
      refine ⟨mkS b, rfl, by rw [tl_mkS]; omega, fun d hd p3 H3 e3 dd => ?_, fun hd H3 e3 => ?_⟩
      · walk_at "r"
        exact qn el H3 (e1.trans (e2.trans e3))
      · walk_at "r"
        exact qn el H3 (e1.trans (e2.trans e3))
theorem ok_call_read (T : Tx K mg) : FnOk P w K mg base CX0 5 T.a_call_read T.e_call_read p_call_read (pSd K (caL nvP)) := by
  refine T.d_call_read.F.ok sc_call_read (fun vs H Q E h => ?_) (fun cdv A outer s H vs Q E hr h => ?_)
  · obtain ⟨x, rfl, _⟩ := h
    rfl
  obtain ⟨x, rfl, hl, qy, qn⟩ := h
  have hu := hu_of hr
  refine ⟨_, (pss_cons (ps_set (i := 1) sc_call_read.nd rfl (.inl rfl) (pe_call (ok_called_read T) (hr.mono (by omega)) (by rfl) T.d_called_read.m T.d_called_read.F.kp T.d_called_read.b .nil pass0 (pa_cons (pv 0) pa_nil)))
    (pss_cons (ps_if (pt_cmpR k_isN (pv 1) pe_non (nomark _)) (pss_one (ps_ret pe_non)) pss_nil)
    (pss_cons (ps_asg (pv 1) (pg_tup (by rfl) (pgs_cons (pg_name (i := 2) sc_call_read.nd rfl (.inl rfl)) (pgs_cons (pg_name (i := 3) sc_call_read.nd rfl (.inl rfl)) pgs_nil))))
    (pss_cons (ps_setLc (i := 4) (own := [("part", 5)]) (g := gName 5) rfl sc_call_read.nd rfl rfl (sw_true rfl rfl rfl (by decide +kernel)) (plK K (pv 3)) (blkOk_by (own := [("part", 5)]) (N := n_call_read) (sc := defScope s_call_read) (by decide +kernel)) (fun _ _ _ _ _ => (pg_name (i := 5) sc_call_read.nd rfl (Or.inl rfl))) (fun _ _ _ _ _ => pts_nil) (fun _ _ _ _ _ => (pe_call (ok_source_read T) (hr.mono (by omega)) (by rfl) T.d_source_read.m T.d_source_read.F.kp T.d_source_read.b .nil pass0 (pa_cons (pv 5) pa_nil))))
    (pss_cons (ps_if (pt_cmpR (inDK K (hd_of hr)) pe_non (pv 4) (by rfl)) (pss_one (ps_ret pe_non)) pss_nil)
    (pss_one (ps_ret (pe_tup (pa_cons pe_str (pa_cons (pv 2) (pa_cons (pv 4) pa_nil))))))))))), ?_⟩
  have eh : caL nvP (tl x) = (clL (tl x)).bind fun q => (oAll (srL nvP) q.2).map fun ss => .tuple [.str "call", .str q.1, .list ss] := rfl
  walk_at "r"
  refine ⟨x, rfl, hl, fun q hq p l H1 e1 f1 f2 => ?_, fun hq H1 e1 => ?_⟩
  · rw [hq] at eh
    have eh : caL nvP (tl x) = (oAll (srL nvP) q.2).map fun ss => .tuple [.str "call", .str q.1, .list ss] := eh
    obtain ⟨fi1, fi2, fi3⟩ := cl_fine hq hl
    walk_at "r"
    refine w_gtup (xs := [.str q.1, .ref l]) (SqT.of f1) rfl ?_
    walk_at "r"
    refine c_L (SqL.of f2) ?_
    refine cp_list (xs := slV q.2) (fun d j hh => Ex H1 hh ∧ ∃ ws, hh d = some (.lst ws) ∧ DpAll K hh ws ((q.2.take j).map fun a => oD (srL nvP a))) (fun d n => ⟨Ex.new n, [], upd_same, .nil⟩) (fun d j hh _ _ y => SqL.of (y.1 _ _ f2)) ?_ ?_
    · rintro d j u hh nd hj ⟨Y, ws, fd, dw⟩
      obtain ⟨pt, hpt, rfl⟩ := slV_at hj
      have jl := at_lt hpt
      have sl := (fi3 pt (List.mem_of_getElem? hpt)).length_le
      have lw := dpa_len dw
      rw [List.length_map, List.length_take] at lw
      have ntw : ntA ((q.2.take j).map fun a => oD (srL nvP a)) = true := by
        have key : ∀ ls : List Ln, (∀ a ∈ ls, a.length ≤ 50000) → ntA (ls.map fun a => oD (srL nvP a)) = true := by
          intro ls
          induction ls with
          | nil => intro _; rfl
          | cons a ls ih =>
            intro h
            show (ntD (oD (srL nvP a)) && _) = true
            rw [show ntA (ls.map fun a => oD (srL nvP a)) = true from ih fun b m => h b (List.mem_cons_of_mem _ m), Bool.and_true]
            cases hd : srL nvP a with
            | none => rfl
            | some q => exact (sr_fine hd (h a (List.mem_cons_self ..))).2
        exact key _ fun a ma => by
          have := (fi3 a (List.mem_of_mem_take ma)).length_le
          omega
      walk_at "r"
      refine ⟨rfl, ?_⟩
      walk_at "r"
      refine ⟨mkS pt, rfl, by rw [tl_mkS]; omega, fun q2 hq2 p2 H2 e2 du => ?_, fun hq2 H2 e2 => ?_⟩
      · rw [tl_mkS] at hq2
        have kt := Kt.mut (o := .lst (ws ++ [.ref p2])) (e2 _ _ fd)
        refine ⟨ws, e2 _ _ fd, sz_lt (by omega), (Y.trans e2).mut nd, _, upd_same, ?_⟩
        rw [take_snoc hpt, List.map_append]
        refine dpa_snoc (dpa_kt kt (dpa_ex e2 dw) ntw) ?_
        show Dp K _ _ (oD (srL nvP pt))
        rw [hq2]
        exact dp_kt kt du (sr_fine hq2 (by omega)).2
      · rw [tl_mkS] at hq2
        have kt := Kt.mut (o := .lst (ws ++ [.non])) (e2 _ _ fd)
        refine ⟨ws, e2 _ _ fd, sz_lt (by omega), (Y.trans e2).mut nd, _, upd_same, ?_⟩
        rw [take_snoc hpt, List.map_append]
        refine dpa_snoc (dpa_kt kt (dpa_ex e2 dw) ntw) ?_
        show Dp K _ _ (oD (srL nvP pt))
        rw [hq2]
        exact .non
    rintro d hh nd ⟨Y, ws, fd, dw⟩
    rw [slV_len, List.take_length] at dw
    walk_at "r"
    have fi : ∀ a ∈ q.2, ∀ d, srL nvP a = some d → Fine 2 d ∧ PyData.eqv d .none = false := fun a ma d hd => by
      have la := (fi3 a ma).length_le
      refine ⟨(sr_fine hd (by omega)).1, ?_⟩
      obtain ⟨ds, rfl⟩ := sr_tup hd
      rfl
    refine a_nIn (SqL.of fd) dw fi (by decide) (by omega) ?_
    walk_at "r"
    cases ho : oAll (srL nvP) q.2 with
    | none =>
      rw [ho] at eh
      show if true = true then _ else _
      walk_at "r"
      exact qn eh hh (e1.trans Y)
    | some m =>
      rw [ho] at eh
      rw [oAll_map ho] at dw
      show if false = true then _ else _
      walk_at "r"
      refine new_tup (xs := [.str "call", .str q.1, .ref d]) (by simp) fun p4 H4 n4 e4 f4 => ?_
      have E14 := e1.trans (Y.trans e4)
      refine qy _ eh p4 H4 E14 fun M mu => ?_
      have nm : ntA m = true := nt_all fun b hb => by
        obtain ⟨a, ma, ha⟩ := oAll_src ho b hb
        have la := (fi3 a ma).length_le
        exact (sr_fine ha (by omega)).2
      exact .tup (SqT.of (dl_at ((mu.ex E14).tup f4) f4)) (.cons (.str _) (.cons (.str _) (.cons (.lst (SqL.of (dl_at (mu.nin (ex_none e1 nd)) (e4 _ _ fd))) ((mu.ex E14).dpa (dpa_ex e4 dw) nm)) .nil)))
  · rw [hq] at eh
    walk_at "r"
    exact qn eh H1 e1
end
section
variable {P : Program} {w : World} {K : PySem.W.Frag} {mg : Str → Option Value} {base : Heap}
open TL
theorem word_iff {l w : Ln} (hw : (32 : Nat) ∉ w) : l.take (w.length + 1) = w ++ [32] ↔ ∃ b, par [32] [] l = some (w, b) ∧ l.drop (w.length + 1) = b := by
  constructor
  · intro h
    refine ⟨l.drop (w.length + 1), ?_, rfl⟩
    have e := List.take_append_drop (w.length + 1) l
    rw [h] at e
    have := par_part1 (s := 32) (S := []) (p := w) (rest := l.drop (w.length + 1)) (acc := []) hw
    rw [List.nil_append, ← List.append_assoc, e] at this
    exact this
  · rintro ⟨b, h, _⟩
    rw [par_eq h, ← List.append_assoc, List.take_left' (by simp)]
theorem lt_nil (nv : NV) : ltL nv [] = none := rfl
theorem pt_nil (nv : NV) : ptL nv [] = none := rfl
theorem ca_nil (nv : NV) : caL nv [] = none := rfl
theorem w_let : tl "let " = tl "let" ++ [32] ∧ (tl "let").length + 1 = 4 ∧ (32 : Nat) ∉ tl "let" := by decide +kernel
theorem w_put : tl "put " = tl "put" ++ [32] ∧ (tl "put").length + 1 = 4 ∧ (32 : Nat) ∉ tl "put" := by decide +kernel
theorem w_cal : tl "call " = tl "call" ++ [32] ∧ (tl "call").length + 1 = 5 ∧ (32 : Nat) ∉ tl "call" := by decide +kernel
theorem st_eq (nv : NV) (l : Ln) : stL nv l = match par [32] [] l with
    | none => none
    | some (a, b) => if a = tl "let" then ltL nv b else if a = tl "put" then ptL nv b else if a = tl "call" then caL nv b else none := by
  obtain ⟨a1, a2, a3⟩ := w_let
  obtain ⟨b1, b2, b3⟩ := w_put
  obtain ⟨c1, c2, c3⟩ := w_cal
  unfold stL
  have wl := word_iff (l := l) a3
  have wp := word_iff (l := l) b3
  have wc := word_iff (l := l) c3
  rw [a2, ← a1] at wl
  rw [b2, ← b1] at wp
  rw [c2, ← c1] at wc
  cases hp : par [32] [] l with
  | none =>
    rw [hp] at wl wp wc
    rw [if_neg (fun z => by obtain ⟨b, h, _⟩ := wl.mp z; cases h), if_neg (fun z => by obtain ⟨b, h, _⟩ := wp.mp z; cases h), if_neg (fun z => by obtain ⟨b, h, _⟩ := wc.mp z; cases h)]
  | some ab =>
    obtain ⟨a, b⟩ := ab
    rw [hp] at wl wp wc
    show _ = if a = tl "let" then ltL nv b else if a = tl "put" then ptL nv b else if a = tl "call" then caL nv b else none
    have hd : ∀ w : Ln, a = w → l.drop (w.length + 1) = b := fun w e => by
      rw [par_eq hp, e, ← List.append_assoc, List.drop_left' (by simp)]
    by_cases h1 : a = tl "let"
    · have := hd _ h1
      rw [a2] at this
      rw [if_pos (wl.mpr ⟨b, by rw [h1], this⟩), if_pos h1, this]
    · rw [if_neg (fun z => by obtain ⟨b', h, _⟩ := wl.mp z; exact h1 (Prod.mk.inj (Option.some.inj h)).1), if_neg h1]
      by_cases h2 : a = tl "put"
      · have := hd _ h2
        rw [b2] at this
        rw [if_pos (wp.mpr ⟨b, by rw [h2], this⟩), if_pos h2, this]
      · rw [if_neg (fun z => by obtain ⟨b', h, _⟩ := wp.mp z; exact h2 (Prod.mk.inj (Option.some.inj h)).1), if_neg h2]
        by_cases h3 : a = tl "call"
        · have := hd _ h3
          rw [c2] at this
          rw [if_pos (wc.mpr ⟨b, by rw [h3], this⟩), if_pos h3, this]
        · rw [if_neg (fun z => by obtain ⟨b', h, _⟩ := wc.mp z; exact h3 (Prod.mk.inj (Option.some.inj h)).1), if_neg h3]
theorem ok_statement_read (T : Tx K mg) : FnOk P w K mg base CX0 6 T.a_statement_read T.e_statement_read p_statement_read (pSd K (stL nvP)) := by
  refine T.d_statement_read.F.ok sc_statement_read (fun vs H Q E h => ?_) (fun cdv A outer s H vs Q E hr h => ?_)
  · obtain ⟨x, rfl, _⟩ := h
    rfl
  obtain ⟨x, rfl, hl, qy, qn⟩ := h
  refine ⟨_, (pss_cons (ps_asg (pe_m1 PySem.F.slot_str_partition PySem.F.type_str_partition mtPar (pv 0) pe_str) (pg_tup (by rfl) (pgs_cons (pg_name (i := 1) sc_statement_read.nd rfl (.inl rfl)) (pgs_cons (pg_name (i := 2) sc_statement_read.nd rfl (.inl rfl)) (pgs_cons (pg_name (i := 3) sc_statement_read.nd rfl (.inl rfl)) pgs_nil)))))
    (pss_cons (ps_if (pt_cmpR op_eq (pv 1) pe_str (nomark _)) (pss_one (ps_ret (pe_call (ok_let_read T) (hr.mono (by omega)) (by rfl) T.d_let_read.m T.d_let_read.F.kp T.d_let_read.b .nil pass0 (pa_cons (pv 3) pa_nil)))) pss_nil)
    (pss_cons (ps_if (pt_cmpR op_eq (pv 1) pe_str (nomark _)) (pss_one (ps_ret (pe_call (ok_put_read T) (hr.mono (by omega)) (by rfl) T.d_put_read.m T.d_put_read.F.kp T.d_put_read.b .nil pass0 (pa_cons (pv 3) pa_nil)))) pss_nil)
    (pss_cons (ps_if (pt_cmpR op_eq (pv 1) pe_str (nomark _)) (pss_one (ps_ret (pe_call (ok_call_read T) (hr.mono (by omega)) (by rfl) T.d_call_read.m T.d_call_read.F.kp T.d_call_read.b .nil pass0 (pa_cons (pv 3) pa_nil)))) pss_nil)
    (pss_one (ps_ret pe_non)))))), ?_⟩
  have sS : tl " " = [32] := by decide +kernel
  have hS : tl " " ≠ [] := by rw [sS]; simp
  rw [st_eq] at qy qn
  rw [← sS] at qy qn
  walk_at "r"
  refine ⟨⟨_, rfl⟩, ?_⟩
  walk_at "r"
  refine a_par hS hl fun p H1 n1 e1 f1 => ?_
  cases hp : par (tl " ") [] (tl x) with
  | none =>
    rw [hp] at qy qn
    rw [part_none hS hp] at f1
    have f1' : H1 p = some (.tup [.str x, .str Str.empty, .str Str.empty]) := f1
    have nn := qn rfl
    refine w_gtup (xs := [.str x, .str Str.empty, .str Str.empty]) (SqT.of f1') rfl ?_
    walk_at "r"
    refine ite2 (fun y => ?_) (fun y => ?_)
    · walk_at "r"
      refine ⟨Str.empty, rfl, by rw [tl_empty]; decide, fun d hd => ?_, fun _ H2 e2 => nn H2 (e1.trans e2)⟩
      rw [tl_empty, lt_nil] at hd
      cases hd
    walk_at "r"
    refine ite2 (fun y => ?_) (fun y => ?_)
    · walk_at "r"
      refine ⟨Str.empty, rfl, by rw [tl_empty]; decide, fun d hd => ?_, fun _ H2 e2 => nn H2 (e1.trans e2)⟩
      rw [tl_empty, pt_nil] at hd
      cases hd
    walk_at "r"
    refine ite2 (fun y => ?_) (fun y => ?_)
    · walk_at "r"
      refine ⟨Str.empty, rfl, by rw [tl_empty]; decide, fun d hd => ?_, fun _ H2 e2 => nn H2 (e1.trans e2)⟩
      rw [tl_empty, ca_nil] at hd
      cases hd
    walk_at "r"
    exact nn H1 e1
  | some ab =>
    obtain ⟨a, b⟩ := ab
    rw [hp] at qy qn
    have qy : ∀ d, (if a = tl "let" then ltL nvP b else if a = tl "put" then ptL nvP b else if a = tl "call" then caL nvP b else none) = some d → ∀ p H1, Ex H H1 → (∀ M, Mu M H → Dp K (dl M H1) (.ref p) d) → Q (.ref p) H1 := qy
    have qn : (if a = tl "let" then ltL nvP b else if a = tl "put" then ptL nvP b else if a = tl "call" then caL nvP b else none) = none → ∀ H1, Ex H H1 → Q .non H1 := qn
    have pl := par_len hp
    rw [part_some hS hp] at f1
    refine w_gtup (xs := [.str (mkS a), .str " ", .str (mkS b)]) (SqT.of f1) rfl ?_
    have eqs : ∀ s : Str, mkS a = s ↔ a = tl s := fun s => ⟨fun z => by rw [← z, tl_mkS], fun z => by rw [z, mkS_tl]⟩
    walk_at "r"
    refine ite2 (fun y => ?_) (fun y => ?_)
    · have y1 := (eqs _).mp (of_decide_eq_true y)
      rw [if_pos y1] at qy qn
      walk_at "r"
      exact ⟨mkS b, rfl, by rw [tl_mkS]; omega, fun d hd p2 H2 e2 dd => qy d hd p2 H2 (e1.trans e2) fun M mu => dd M (mu.ex e1), fun hd H2 e2 => qn hd H2 (e1.trans e2)⟩
    · have y1 : ¬ a = tl "let" := fun z => y (decide_eq_true ((eqs _).mpr z))
      rw [if_neg y1] at qy qn
      walk_at "r"
      refine ite2 (fun y => ?_) (fun y => ?_)
      · have y1 := (eqs _).mp (of_decide_eq_true y)
        rw [if_pos y1] at qy qn
        walk_at "r"
        exact ⟨mkS b, rfl, by rw [tl_mkS]; omega, fun d hd p2 H2 e2 dd => qy d hd p2 H2 (e1.trans e2) fun M mu => dd M (mu.ex e1), fun hd H2 e2 => qn hd H2 (e1.trans e2)⟩
      · have y1 : ¬ a = tl "put" := fun z => y (decide_eq_true ((eqs _).mpr z))
        rw [if_neg y1] at qy qn
        walk_at "r"
        refine ite2 (fun y => ?_) (fun y => ?_)
        · have y1 := (eqs _).mp (of_decide_eq_true y)
          rw [if_pos y1] at qy qn
          walk_at "r"
          exact ⟨mkS b, rfl, by rw [tl_mkS]; omega, fun d hd p2 H2 e2 dd => qy d hd p2 H2 (e1.trans e2) fun M mu => dd M (mu.ex e1), fun hd H2 e2 => qn hd H2 (e1.trans e2)⟩
        · have y1 : ¬ a = tl "call" := fun z => y (decide_eq_true ((eqs _).mpr z))
          rw [if_neg y1] at qn
          walk_at "r"
          exact qn rfl H1 e1
def pTks (K : PySem.W.Frag) : Sp := fun vs H Q _ => ∃ M l ws ds x, vs = [.ref l, .str x] ∧ (tl x).length ≤ 50000 ∧ H l = some (.lst ws) ∧ l ∈ M ∧ Mu M H ∧ DpAll K (dl M H) ws ds ∧ ds.length < 100000 ∧
  (∀ d, stL nvP (tl x) = some d → ∀ ws' H1, Kp [l] H H1 → H1 l = some (.lst ws') → DpAll K (dl M H1) ws' (ds ++ [d]) → Q (.bl true) H1) ∧ (stL nvP (tl x) = none → ∀ H1, Ex H H1 → Q (.bl false) H1)
theorem ok_takes_statement (T : Tx K mg) : FnOk P w K mg base CX0 7 T.a_takes_statement T.e_takes_statement p_takes_statement (pTks K) := by
  refine T.d_takes_statement.F.ok sc_takes_statement (fun vs H Q E h => ?_) (fun cdv A outer s H vs Q E hr h => ?_)
  · obtain ⟨M, l, ws, ds, x, rfl, _⟩ := h
    rfl
  obtain ⟨M, l, ws, ds, x, rfl, hl, fl, lm, mu, dw, hz, qy, qn⟩ := h
  refine ⟨_, (pss_cons (ps_set (i := 2) sc_takes_statement.nd rfl (.inl rfl) (pe_call (ok_statement_read T) (hr.mono (by omega)) (by rfl) T.d_statement_read.m T.d_statement_read.F.kp T.d_statement_read.b .nil pass0 (pa_cons (pv 1) pa_nil)))
    (pss_cons (ps_if (pt_cmpR k_isN (pv 2) pe_non (nomark _)) (pss_one (ps_ret pe_bl)) pss_nil)
    (pss_cons (ps_expr (pe_bm PySem.F.plainAttrs_list PySem.F.slot_list_append PySem.F.type_list_append mt_append (pv 0) (pa_cons (pv 2) pa_nil)))
    (pss_one (ps_ret pe_bl))))), ?_⟩
  walk_at "r"
  refine ⟨x, rfl, hl, fun d hd p H1 e1 dd => ?_, fun hd H1 e1 => ?_⟩
  · have lw := dpa_len dw
    walk_at "r"
    refine ⟨a_ty (e1 _ _ fl), ?_⟩
    walk_at "r"
    refine a_appK (e1 _ _ fl) (by omega) fun H2 k2 f2 => ?_
    walk_at "r"
    refine qy d hd _ H2 ((Kp.of e1).trans k2) f2 ?_
    have s12 : Ex (dl M H1) (dl M H2) := dl_ks (k2.k.mono (by simpa using lm))
    exact dpa_snoc (dpa_ex ((dl_ex e1).trans s12) dw) (dp_ex s12 (dd M mu))
  · walk_at "r"
    exact qn hd H1 e1
end
section
variable {P : Program} {w : World} {K : PySem.W.Frag} {mg : Str → Option Value} {base : Heap}
open TL
theorem ok_RightsError_init2 (T : Tx K mg) : FnOk P w K mg base CX0 1 T.a_RightsError_init T.e_RightsError_init p_RightsError_init (pRe T.C_TextError) := by
  refine T.d_RightsError_init.F.ok sc_RightsError_init (fun vs H Q E h => ?_) (fun cdv A outer s H vs Q E hr h => ?_)
  · obtain ⟨a, r, rfl, _⟩ := h
    rfl
  obtain ⟨a, r, rfl, fa, q⟩ := h
  refine ⟨_, (pss_cons (ps_expr (pe_veinit (by rfl) T.b_ValueError T.vV (pa_cons (pv 0) (pa_cons (pv 1) pa_nil))))
    (pss_one (ps_ost (pv 0) (pv 1)))), ?_⟩
  walk_at "r"
  refine ⟨a, T.C_TextError, [.str r], rfl, (show 1 ≤ 1000 by decide), T.o_TextError, fa, ?_⟩
  walk_at "r"
  refine ⟨a, T.C_TextError, rfl, T.o_TextError, T.n_TextError_reason, .inl ⟨fa, fun dx n ne => ?_⟩⟩
  walk_at "r"
  exact q dx n ne
def pTe (C : Addr) : Sp := fun vs H Q _ => ∃ a, ∃ k : Int, ∃ r, vs = [.ref a, .int k, .str r] ∧ H a = some (exo a C none) ∧ ∀ dx, H dx = none → dx ≠ a → Q .non (upd (upd (upd H dx (exd dx [("reason", .str r)])) a (exo a C (some dx))) dx (exd dx [("line", .int k), ("reason", .str r)]))
theorem ok_TextError_init (T : Tx K mg) : FnOk P w K mg base CX0 2 T.a_TextError_init T.e_TextError_init p_TextError_init (pTe T.C_TextError) := by
  refine T.d_TextError_init.F.ok sc_TextError_init (fun vs H Q E h => ?_) (fun cdv A outer s H vs Q E hr h => ?_)
  · obtain ⟨a, k, r, rfl, _⟩ := h
    rfl
  obtain ⟨a, k, r, rfl, fa, q⟩ := h
  refine ⟨_, (pss_cons (ps_expr (pe_cinit (by rfl) T.g_RightsError T.cr_RightsError T.ci_RightsError (ok_RightsError_init2 T) (hr.mono (by omega)) T.d_RightsError_init.F.kp T.d_RightsError_init.b (pa_cons (pv 0) (pa_cons (pv 2) pa_nil))))
    (pss_one (ps_ost (pv 0) (pv 1)))), ?_⟩
  walk_at "r"
  refine ⟨a, r, rfl, fa, fun dx n ne => ?_⟩
  walk_at "r"
  refine ⟨a, T.C_TextError, rfl, T.o_TextError, T.n_TextError_line, .inr ⟨dx, [("reason", .str r)], upd_same, by rw [upd_ne ne, upd_same], by simp, ?_⟩⟩
  walk_at "r"
  exact q dx n ne
theorem mko_te {C : Addr} {k : Int} {r : Str} {H : Hp} {Q : XK} (q : ∀ d H1, H d = none → Ex H H1 → H1 d = some (.xd [("line", .int k), ("reason", .str r)]) → Q (.ref C) (some d) H1) : MkO C (pTe C) [.int k, .str r] H Q := by
  refine ⟨(show 2 ≤ 1000 by decide), fun a na => ⟨a, k, r, rfl, upd_same, fun dx n ne => ⟨rfl, dx, [("line", .int k), ("reason", .str r)], by rw [upd_ne (fun z => ne z.symm), upd_same], upd_same, by rw [upd_ne ne] at n; exact n, ?_⟩⟩⟩
  have nd : H dx = none := by rw [upd_ne ne] at n; exact n
  refine q dx _ nd (fun b o e => ?_) upd_same
  have b1 : b ≠ dx := ne_of_none e nd
  have b2 : b ≠ a := ne_of_none e na
  rw [upd_ne b1, del_ne b2, upd_ne b1, upd_ne b2, upd_ne b1, upd_ne b2]
  exact e
def rdF (pf ps : Addr) (hv : V) (pb : Addr) : List (Str × V) := [("functions", .ref pf), ("statements", .ref ps), ("head", hv), ("body", .ref pb)]
theorem rdF_of (pf ps pb : Addr) : putF "body" (.ref pb) (putF "head" .non (putF "statements" (.ref ps) (putF "functions" (.ref pf) []))) = rdF pf ps .non pb := by rfl
theorem rdF_head (pf ps pb : Addr) (hv u : V) : putF "head" u (rdF pf ps hv pb) = rdF pf ps u pb := by rfl
theorem rdF_body (pf ps pb pb' : Addr) (hv : V) : putF "body" (.ref pb') (rdF pf ps hv pb) = rdF pf ps hv pb' := by rfl
theorem rdF_f (pf ps pb : Addr) (hv : V) : (rdF pf ps hv pb).lookup ("functions" : Str) = some (.ref pf) := by rfl
theorem rdF_s (pf ps pb : Addr) (hv : V) : (rdF pf ps hv pb).lookup ("statements" : Str) = some (.ref ps) := by rfl
theorem rdF_h (pf ps pb : Addr) (hv : V) : (rdF pf ps hv pb).lookup ("head" : Str) = some hv := by rfl
theorem rdF_b (pf ps pb : Addr) (hv : V) : (rdF pf ps hv pb).lookup ("body" : Str) = some (.ref pb) := by rfl
end
section
variable {P : Program} {w : World} {K : PySem.W.Frag} {mg : Str → Option Value} {base : Heap}
open TL
def rdM (s : Rs) (a pf ps pb : Addr) : List Addr := match s.hd with
  | none => [a, pf, ps]
  | some _ => [a, pf, ps, pb]
structure RdH (K : PySem.W.Frag) (B : Hp) (s : Rs) (G H : Hp) (pf ps : Addr) (hv : V) (pb : Addr) (q : Str × List PyData) : Prop where
  ex : ∃ wb p l, hv = .ref p ∧ B pb = none ∧ pf ≠ pb ∧ ps ≠ pb ∧ H pb = some (.lst wb) ∧ DpAll K G wb s.bd ∧ smAll s.bd = true ∧ G p = some (.tup [.str q.1, .ref l]) ∧ Dl K G l q.2 ∧ smD (.str q.1) = true
structure RdX (K : PySem.W.Frag) (CR CF : Addr) (B : Hp) (a : Addr) (k : Nat) (s : Rs) (H : Hp) (dx pf ps : Addr) (hv : V) (pb : Addr) (wf ws : List V) : Prop where
  na : B a = none
  nf : B pf = none
  ns : B ps = none
  ne : pf ≠ ps
  eb : Ex B H
  ha : H a = some (.ins CR dx (rdF pf ps hv pb))
  hf : H pf = some (.lst wf)
  hs : H ps = some (.lst ws)
  fa : FnAll K CF (dl (rdM s a pf ps pb) H) wf s.fs
  sa : DpAll K (dl (rdM s a pf ps pb) H) ws s.ss
  sm : smAll s.ss = true
  hh : ∀ q, s.hd = some q → RdH K B s (dl (rdM s a pf ps pb) H) H pf ps hv pb q
  hn : s.hd = none → hv = .non
  lf : s.fs.length ≤ k
  ls : s.ss.length ≤ k
  lb : s.bd.length ≤ k
structure Rd (K : PySem.W.Frag) (CR CF : Addr) (B : Hp) (a : Addr) (k : Nat) (s : Rs) (H : Hp) : Prop where
  ex : ∃ dx pf ps hv pb wf ws, RdX K CR CF B a k s H dx pf ps hv pb wf ws
section
variable {K : PySem.W.Frag} {CR CF a dx pf ps pb : Addr} {B H H1 : Hp} {k : Nat} {s : Rs} {hv : V} {wf ws : List V}
theorem ins_lst {p C : Addr} {fs : List (Str × V)} {w : List V} (h : H a = some (.ins C dx fs)) (g : H p = some (.lst w)) : p ≠ a := fun z => by
  rw [z, h] at g
  cases g
theorem RdX.mu (r : RdX K CR CF B a k s H dx pf ps hv pb wf ws) : Mu (rdM s a pf ps pb) H := fun x hx => by
  have bas : ∀ y ∈ [a, pf, ps], ∃ o, H y = some o ∧ isT o = false := fun y hy => by
    rcases List.mem_cons.mp hy with rfl | hy
    · exact ⟨_, r.ha, rfl⟩
    rcases List.mem_cons.mp hy with rfl | hy
    · exact ⟨_, r.hf, rfl⟩
    rw [List.mem_singleton.mp hy]
    exact ⟨_, r.hs, rfl⟩
  unfold rdM at hx
  cases hq : s.hd with
  | none =>
    rw [hq] at hx
    exact bas x hx
  | some q =>
    rw [hq] at hx
    have hx : x ∈ [a, pf, ps] ++ [pb] := hx
    rcases List.mem_append.mp hx with hx | hx
    · exact bas x hx
    · obtain ⟨wb, p, l, _, _, _, _, h, _⟩ := (r.hh q hq).ex
      rw [List.mem_singleton.mp hx]
      exact ⟨_, h, rfl⟩
theorem RdX.isb {x : Addr} (r : RdX K CR CF B a k s H dx pf ps hv pb wf ws) (hx : x ∈ rdM s a pf ps pb) : B x = none := by
  unfold rdM at hx
  cases hq : s.hd with
  | none =>
    rw [hq] at hx
    rcases List.mem_cons.mp hx with rfl | hx
    · exact r.na
    rcases List.mem_cons.mp hx with rfl | hx
    · exact r.nf
    rw [List.mem_singleton.mp hx]
    exact r.ns
  | some q =>
    rw [hq] at hx
    rcases List.mem_cons.mp hx with rfl | hx
    · exact r.na
    rcases List.mem_cons.mp hx with rfl | hx
    · exact r.nf
    rcases List.mem_cons.mp hx with rfl | hx
    · exact r.ns
    obtain ⟨wb, p, l, _, h, _⟩ := (r.hh q hq).ex
    rw [List.mem_singleton.mp hx]
    exact h
theorem RdX.up (r : RdX K CR CF B a k s H dx pf ps hv pb wf ws) (e : Ex H H1) : RdX K CR CF B a k s H1 dx pf ps hv pb wf ws := by
  have d := dl_ex (S := rdM s a pf ps pb) e
  refine ⟨r.na, r.nf, r.ns, r.ne, r.eb.trans e, e _ _ r.ha, e _ _ r.hf, e _ _ r.hs, r.fa.up d, dpa_ex d r.sa, r.sm, fun q hq => ?_, r.hn, r.lf, r.ls, r.lb⟩
  obtain ⟨wb, p, l, h1, h2, h3, h4, h5, h6, h7, h8, h9, h10⟩ := (r.hh q hq).ex
  exact ⟨wb, p, l, h1, h2, h3, h4, e _ _ h5, dpa_ex d h6, h7, d _ _ h8, h9.up d, h10⟩
theorem Rd.up (r : Rd K CR CF B a k s H) (e : Ex H H1) : Rd K CR CF B a k s H1 := by
  obtain ⟨dx, pf, ps, hv, pb, wf, ws, x⟩ := r.ex
  exact ⟨dx, pf, ps, hv, pb, wf, ws, x.up e⟩
/-- what is the base's is kept -/
theorem ks_base {M : List Addr} (e : Ex B H) (k : Ks M H H1) (n : ∀ x ∈ M, B x = none) : Ex B H1 := fun b o h => k b o (fun z => by
  rw [n b z] at h
  cases h) (e b o h)
theorem Rd.eb (r : Rd K CR CF B a k s H) : Ex B H := by
  obtain ⟨dx, pf, ps, hv, pb, wf, ws, x⟩ := r.ex
  exact x.eb
theorem sm_app1 : ∀ {ds : List PyData} {d : PyData}, smAll ds = true → smD d = true → smAll (ds ++ [d]) = true
  | [], d, _, h => by
    show (smD d && true) = true
    rw [h]
    rfl
  | c :: ds, d, h, g => by
    have h' := (Bool.and_eq_true _ _ ▸ h : smD c = true ∧ smAll ds = true)
    show (smD c && smAll (ds ++ [d])) = true
    rw [h'.1, sm_app1 h'.2 g]
    rfl
theorem Rd.start {pf ps pb : Addr} (e : Ex B H) (n : B a = none) (nf : B pf = none) (ns : B ps = none) (ne : pf ≠ ps) (ha : H a = some (.ins CR dx (rdF pf ps .non pb))) (hf : H pf = some (.lst [])) (hs : H ps = some (.lst [])) : Rd K CR CF B a 0 rs0 H :=
  ⟨dx, pf, ps, .non, pb, [], [], n, nf, ns, ne, e, ha, hf, hs, .nil, .nil, rfl, fun q hq => (by cases hq), fun _ => rfl, Nat.le_refl _, Nat.le_refl _, Nat.le_refl _⟩
end
theorem put3_lt (f g h : Str) (v u y : V) : (putF f v (putF g u (putF h y []))).length < 1000 := by
  have h1 := putF_le f v (putF g u (putF h y []))
  have h2 := putF_le g u (putF h y [])
  have h3 := putF_le h y []
  have : ([] : List (Str × V)).length = 0 := rfl
  omega
theorem hd_nt {nv : NV} {l : Ln} {q : Str × List PyData} (h : hdL nv l = some q) (hl : l.length ≤ 50000) : ∀ d ∈ q.2, ntD d = true := by
  unfold hdL at h
  split at h
  · cases hc : clL (l.drop 4) with
    | none => rw [hc] at h; cases h
    | some c =>
      rw [hc] at h
      have h' : ((oAll (dcL nv) c.2).map fun ps => (c.1, ps.map dcD)) = some q := h
      obtain ⟨f1, f2, f3⟩ := cl_fine hc (by rw [List.length_drop]; omega)
      cases ho : oAll (dcL nv) c.2 with
      | none => rw [ho] at h'; cases h'
      | some ps =>
        rw [ho] at h'
        cases h'
        intro d m
        obtain ⟨p, mp, rfl⟩ := List.mem_map.mp m
        obtain ⟨w, mw, e⟩ := oAll_mem ho p mp
        have lw := (f3 w mw).length_le
        rw [List.length_drop] at lw
        exact (dc_fine e (by omega)).2.1
  · cases h
theorem sm_of {ds : List PyData} (h : ∀ d ∈ ds, smD d = true) : smAll ds = true := by
  induction ds with
  | nil => rfl
  | cons d ds ih =>
    show (smD d && smAll ds) = true
    rw [h d (List.mem_cons_self ..), ih fun x m => h x (List.mem_cons_of_mem _ m)]
    rfl
def pRi (C : Addr) : Sp := fun vs H Q _ => ∃ a dx, vs = [.ref a] ∧ H a = some (.ins C dx []) ∧ ∀ pf ps pb H1, Kp [a] H H1 → H pf = none → H ps = none → pf ≠ ps → H1 a = some (.ins C dx (rdF pf ps .non pb)) → H1 pf = some (.lst []) → H1 ps = some (.lst []) → Q .non H1
theorem ok_Reader_init (T : Tx K mg) : FnOk P w K mg base CX0 1 T.a_Reader_init T.e_Reader_init p_Reader_init (pRi T.C_Reader) := by
  refine T.d_Reader_init.F.ok sc_Reader_init (fun vs H Q E h => ?_) (fun cdv A outer s H vs Q E hr h => ?_)
  · obtain ⟨a, dx, rfl, _⟩ := h
    rfl
  obtain ⟨a, dx, rfl, fa, q⟩ := h
  refine ⟨_, (pss_cons (ps_fld (pv 0) (pe_lst pa_nil) rfl)
    (pss_cons (ps_fld (pv 0) (pe_lst pa_nil) rfl)
    (pss_cons (ps_fld (pv 0) pe_non rfl)
    (pss_one (ps_fld (pv 0) (pe_lst pa_nil) rfl))))), ?_⟩
  walk_at "r"
  refine new_lst (xs := []) (by simp) fun pf H1 n1 e1 f1 => ?_
  walk_at "r"
  refine a_putK T.c_Reader T.n_Reader_functions (e1 _ _ fa) (by decide) fun H2 k2 g2 => ?_
  have f2 : H2 pf = some (.lst []) := k2.at (by simpa using (ne_old fa n1).symm) f1
  walk_at "r"
  refine new_lst (xs := []) (by simp) fun ps H3 n3 e3 f3 => ?_
  walk_at "r"
  refine a_putK T.c_Reader T.n_Reader_statements (e3 _ _ g2) (put1_lt _ _) fun H4 k4 g4 => ?_
  have f4 : H4 pf = some (.lst []) := k4.at (by simpa using (ne_old fa n1).symm) (e3 _ _ f2)
  have f4s : H4 ps = some (.lst []) := k4.at (by simpa using (ne_old g2 n3).symm) f3
  walk_at "r"
  refine a_putK T.c_Reader T.n_Reader_head g4 (put2_lt _ _ _ _) fun H5 k5 g5 => ?_
  walk_at "r"
  refine new_lst (xs := []) (by simp) fun pb H6 n6 e6 f6 => ?_
  walk_at "r"
  refine a_putK T.c_Reader T.n_Reader_body (e6 _ _ g5) (put3_lt _ _ _ _ _ _) fun H7 k7 g7 => ?_
  rw [rdF_of] at g7
  walk_at "r"
  have K02 : Kp [a] H H2 := (Kp.of e1).trans k2
  have K07 : Kp [a] H H7 := ((((K02.trans (Kp.of e3)).trans k4).trans k5).trans (Kp.of e6)).trans k7
  have ff := k7.at (by simpa using (ne_old fa n1).symm) (e6 _ _ (k5.at (by simpa using (ne_old fa n1).symm) f4))
  have fs := k7.at (by simpa using (ne_old g2 n3).symm) (e6 _ _ (k5.at (by simpa using (ne_old g2 n3).symm) f4s))
  exact q pf ps pb H7 K07 n1 (ks_none K02.k n3 (by simpa using (ne_old g2 n3).symm)) (ne_old f2 n3) g7 ff fs
def pTh (K : PySem.W.Frag) (CR CF : Addr) : Sp := fun vs H Q _ => ∃ B a k s x, vs = [.ref a, .str x] ∧ (tl x).length ≤ 50000 ∧ Rd K CR CF B a k s H ∧ s.hd = none ∧
  (∀ q, hdL nvP (tl x) = some q → ∀ H1, Rd K CR CF B a (k + 1) ⟨s.fs, s.ss, some q, []⟩ H1 → Q (.bl true) H1) ∧ (hdL nvP (tl x) = none → ∀ H1, Rd K CR CF B a k s H1 → Q (.bl false) H1)
theorem ok_Reader_takes_head (T : Tx K mg) : FnOk P w K mg base CX0 6 T.a_Reader_takes_head T.e_Reader_takes_head p_Reader_takes_head (pTh K T.C_Reader T.C_Function) := by
  refine T.d_Reader_takes_head.F.ok sc_Reader_takes_head (fun vs H Q E h => ?_) (fun cdv A outer s H vs Q E hr h => ?_)
  · obtain ⟨B, a, k, s, x, rfl, _⟩ := h
    rfl
  obtain ⟨B, a, k, s, x, rfl, hl, rd, hd, qy, qn⟩ := h
  obtain ⟨dx, pf, ps, hv, pb, wf, ws, r⟩ := rd.ex
  have hM : rdM s a pf ps pb = [a, pf, ps] := by unfold rdM; rw [hd]
  have nfa := ins_lst r.ha r.hf
  have nsa := ins_lst r.ha r.hs
  have lF : ∀ (hv : V) (pb : Addr), (rdF pf ps hv pb).length < 1000 := fun _ _ => by simp [rdF]
  have rfa := r.fa
  have rsa := r.sa
  rw [hM] at rfa rsa
  refine ⟨_, (pss_cons (ps_fld (pv 0) (pe_call (ok_head_read T) (hr.mono (by omega)) (by rfl) T.d_head_read.m T.d_head_read.F.kp T.d_head_read.b .nil pass0 (pa_cons (pv 1) pa_nil)) rfl)
    (pss_cons (ps_fld (pv 0) (pe_lst pa_nil) rfl)
    (pss_one (ps_ret (pe_cmpR k_notN (by exact (fldK K (pv 0) rfl)) pe_non (nomark _)))))), ?_⟩
  walk_at "r"
  refine ⟨x, rfl, hl, fun q hq p l us H1 e1 nl f1 f2 dw => ?_, fun hq H1 e1 => ?_⟩
  · walk_at "r"
    refine a_putK T.c_Reader T.n_Reader_head (e1 _ _ r.ha) (lF _ _) fun H2 k2 g2 => ?_
    rw [rdF_head] at g2
    walk_at "r"
    refine new_lst (xs := []) (by simp) fun pb' H3 n3 e3 f3 => ?_
    walk_at "r"
    refine a_putK T.c_Reader T.n_Reader_body (e3 _ _ g2) (lF _ _) fun H4 k4 g4 => ?_
    rw [rdF_body] at g4
    have K04 : Kp [a] H H4 := (((Kp.of e1).trans k2).trans (Kp.of e3)).trans k4
    have K14 : Kp [a] H1 H4 := (k2.trans (Kp.of e3)).trans k4
    have nb1 : H1 pb' = none := ks_none k2.k n3 (by simpa using (ne_old g2 n3).symm)
    have nb : H pb' = none := ex_none e1 nb1
    have D : ∀ {G : Hp}, Ks [a] G H4 → G pb' = none → Ex (dl [a, pf, ps] G) (dl [a, pf, ps, pb'] H4) := fun {G} k n b o z => by
      by_cases m : b ∈ [a, pf, ps]
      · rw [dl_in m] at z
        cases z
      · rw [dl_nin m] at z
        have nb : b ≠ pb' := ne_of_none z n
        rw [dl_nin (by
          intro c
          have c : b ∈ [a, pf, ps] ++ [pb'] := c
          rcases List.mem_append.mp c with c | c
          · exact m c
          · exact nb (List.mem_singleton.mp c))]
        exact k b o (fun c => m (by rw [List.mem_singleton.mp c]; simp)) z
    have mu1 : Mu [a, pf, ps] H1 := hM ▸ r.mu.ex e1
    have ff := K04.at (by simpa using nfa) r.hf
    have fs := K04.at (by simpa using nsa) r.hs
    have nb' : pb' ≠ a := (ne_old g2 n3).symm
    have fb := k4.at (by simpa using nb') f3
    obtain ⟨i1, i2, i3⟩ := hd_fine hq hl
    walk_at "r"
    refine a_get T.c_Reader T.n_Reader_head g4 (rdF_h _ _ _ _) ?_
    walk_at "r"
    refine qy q hq H4 ⟨dx, pf, ps, .ref p, pb', wf, ws, r.na, r.nf, r.ns, r.ne, ks_base r.eb K04.k (by simpa using r.na), g4, ff, fs, rfa.up (D K04.k nb), dpa_ex (D K04.k nb) rsa, r.sm, fun q' hq' => ?_, fun z => (by cases z), Nat.le_succ_of_le r.lf, Nat.le_succ_of_le r.ls, Nat.zero_le _⟩
    cases hq'
    have nl3 : l ∉ [a, pf, ps] := fun z => by
      obtain ⟨o, h1, _⟩ := (hM ▸ r.mu : Mu [a, pf, ps] H) l z
      rw [nl] at h1
      cases h1
    have D1 := D K14.k nb1
    refine ⟨[], p, l, rfl, ex_none r.eb nb, ne_old r.hf nb, ne_old r.hs nb, fb, .nil, rfl, D1 _ _ (dl_at (mu1.tup f1) f1), ⟨⟨us, SqL.of (D1 _ _ (dl_at nl3 f2)), dpa_ex D1 (mu1.dpa dw (nt_all fun d m => ?_))⟩, ?_, ?_⟩, i1.sm⟩
    · exact hd_nt hq hl d m
    · exact sm_of fun d m => (i3 d m).sm
    · omega
  · walk_at "r"
    refine a_putK T.c_Reader T.n_Reader_head (e1 _ _ r.ha) (lF _ _) fun H2 k2 g2 => ?_
    rw [rdF_head] at g2
    walk_at "r"
    refine new_lst (xs := []) (by simp) fun pb' H3 n3 e3 f3 => ?_
    walk_at "r"
    refine a_putK T.c_Reader T.n_Reader_body (e3 _ _ g2) (lF _ _) fun H4 k4 g4 => ?_
    rw [rdF_body] at g4
    have K04 : Kp [a] H H4 := (((Kp.of e1).trans k2).trans (Kp.of e3)).trans k4
    have D : Ex (dl [a, pf, ps] H) (dl [a, pf, ps] H4) := dl_ks (K04.k.mono (by simp))
    walk_at "r"
    refine a_get T.c_Reader T.n_Reader_head g4 (rdF_h _ _ _ _) ?_
    walk_at "r"
    have hM' : rdM s a pf ps pb' = [a, pf, ps] := by unfold rdM; rw [hd]
    refine qn hq H4 ⟨dx, pf, ps, .non, pb', wf, ws, r.na, r.nf, r.ns, r.ne, ks_base r.eb K04.k (by simpa using r.na), g4, K04.at (by simpa using nfa) r.hf, K04.at (by simpa using nsa) r.hs, ?_, ?_, r.sm, fun q' hq' => ?_, fun _ => rfl, r.lf, r.ls, r.lb⟩
    · rw [hM']
      exact rfa.up D
    · rw [hM']
      exact dpa_ex D rsa
    · rw [hd] at hq'
      cases hq'
end
section
variable {P : Program} {w : World} {K : PySem.W.Frag} {mg : Str → Option Value} {base : Heap}
open TL
def pTi (K : PySem.W.Frag) (CR CF : Addr) : Sp := fun vs H Q _ => ∃ B a k s x q, vs = [.ref a, .str x] ∧ (tl x).length ≤ 50000 ∧ Rd K CR CF B a k s H ∧ k < 90000 ∧ s.hd = some q ∧
  (∀ s', stepL nvP s (tl x) = some s' → ∀ H1, Rd K CR CF B a (k + 1) s' H1 → Q (.bl true) H1) ∧ (stepL nvP s (tl x) = none → ∀ H1, Ex B H1 → Q (.bl false) H1)
theorem rs_in {nv : NV} {s : Rs} {q : Str × List PyData} (h : s.hd = some q) (l : Ln) : stepL nv s l = if l = tl "end" then some ⟨s.fs ++ [⟨.str q.1, q.2, s.bd⟩], s.ss, none, []⟩
    else if l.take 2 = tl "  " then (stL nv (l.drop 2)).map fun d => ⟨s.fs, s.ss, some q, s.bd ++ [d]⟩ else none := by
  unfold stepL
  simp only [h]
theorem rs_out {nv : NV} {s : Rs} (h : s.hd = none) (l : Ln) : stepL nv s l = match (if s.ss = [] then hdL nv l else none) with
    | some q => some ⟨s.fs, s.ss, some q, []⟩
    | none => (stL nv l).map fun d => ⟨s.fs, s.ss ++ [d], none, []⟩ := by
  unfold stepL
  rw [h]
  rfl
theorem rdF_m1 (pf ps pb : Addr) (hv : V) : (rdF pf ps hv pb).lookup ("_takes_head" : Str) = none := by rfl
theorem rdF_m2 (pf ps pb : Addr) (hv : V) : (rdF pf ps hv pb).lookup ("_takes_in_function" : Str) = none := by rfl
theorem rdF_m3 (pf ps pb : Addr) (hv : V) : (rdF pf ps hv pb).lookup ("takes" : Str) = none := by rfl
theorem ok_Reader_takes_in_function (T : Tx K mg) : FnOk P w K mg base CX0 8 T.a_Reader_takes_in_function T.e_Reader_takes_in_function p_Reader_takes_in_function (pTi K T.C_Reader T.C_Function) := by
  refine T.d_Reader_takes_in_function.F.ok sc_Reader_takes_in_function (fun vs H Q E h => ?_) (fun cdv A outer s H vs Q E hr h => ?_)
  · obtain ⟨B, a, k, s, x, q, rfl, _⟩ := h
    rfl
  obtain ⟨B, a, k, s, x, q, rfl, hl, rd, kz, hd, qy, qn⟩ := h
  obtain ⟨dx, pf, ps, hv, pb, wf, ws, r⟩ := rd.ex
  have hM : rdM s a pf ps pb = [a, pf, ps, pb] := by unfold rdM; rw [hd]
  have nfa := ins_lst r.ha r.hf
  have nsa := ins_lst r.ha r.hs
  have lF : ∀ (hv : V) (pb : Addr), (rdF pf ps hv pb).length < 1000 := fun _ _ => by simp [rdF]
  obtain ⟨wb, p, l, rfl, nb, nfb, nsb, hb, bd, bsm, fp, dq, nsm⟩ := (r.hh q hd).ex
  have mu := r.mu
  have rfa := r.fa
  have rsa := r.sa
  rw [hM] at rfa rsa bd fp dq mu
  have nba := ins_lst r.ha hb
  rw [rs_in hd] at qy qn
  have lf := r.lf
  have ls := r.ls
  have lb := r.lb
  refine ⟨_, (pss_cons (ps_if (pt_cmpR op_eq (pv 1) pe_str (nomark _)) (pss_cons (ps_asg (by exact (fldK K (pv 0) rfl)) (pg_tup (by rfl) (pgs_cons (pg_name (i := 2) sc_Reader_takes_in_function.nd rfl (.inl rfl)) (pgs_cons (pg_name (i := 3) sc_Reader_takes_in_function.nd rfl (.inl rfl)) pgs_nil))))
    (pss_cons (ps_expr (pe_bm PySem.F.plainAttrs_list PySem.F.slot_list_append PySem.F.type_list_append mt_append (by exact (fldK K (pv 0) rfl)) (pa_cons (pe_make T.k_Function (ok_Function_init T) (hr.mono (by omega)) (by rfl) T.g_Function T.d_Function_init.b .nil pass0 (pa_cons (pv 2) (pa_cons (pv 3) (pa_cons (by exact (fldK K (pv 0) rfl)) pa_nil)))) pa_nil)))
    (pss_cons (ps_fld (pv 0) pe_non rfl)
    (pss_one (ps_ret pe_bl))))) pss_nil)
    (pss_one (ps_ret (pe_and (pe_m1 PySem.F.slot_str_startswith PySem.F.type_str_startswith mtStW (pv 1) pe_str) (pe_one (pe_call (ok_takes_statement T) (hr.mono (by omega)) (by rfl) T.d_takes_statement.m T.d_takes_statement.F.kp T.d_takes_statement.b .nil pass0 (pa_cons (by exact (fldK K (pv 0) rfl)) (pa_cons (pe_slice sl_str (pv 1) (po_some pe_int) po_none) pa_nil)))))))), ?_⟩
  walk_at "r"
  refine ite2 (fun y => ?_) (fun y => ?_)
  · have y1 : tl x = tl "end" := by rw [of_decide_eq_true y]
    rw [if_pos y1] at qy
    walk_at "r"
    refine a_get T.c_Reader T.n_Reader_head r.ha (rdF_h _ _ _ _) ?_
    walk_at "r"
    refine w_gtup (xs := [.str q.1, .ref l]) (SqT.of (dl_le _ _ _ _ fp)) rfl ?_
    walk_at "r"
    refine a_get T.c_Reader T.n_Reader_functions r.ha (rdF_f _ _ _ _) ?_
    walk_at "r"
    refine ⟨a_ty r.hf, ?_⟩
    walk_at "r"
    refine a_get T.c_Reader T.n_Reader_body r.ha (rdF_b _ _ _ _) ?_
    walk_at "r"
    refine a_new fun y0 dy H3 n3 n4 n5 e3 f3 f4 => ?_
    have inM : ∀ b, b ∉ [a, pf, ps, pb] → H b ≠ none → b ∉ [y0, dy, a, pf, ps] := fun b m h c => by
      rcases List.mem_cons.mp c with rfl | c
      · exact h n3
      rcases List.mem_cons.mp c with rfl | c
      · exact h n4
      · exact m (List.mem_append_left [pb] c)
    have DS : Ex (dl [a, pf, ps, pb] H) (dl [y0, dy, a, pf, ps] H3) := fun b o z => by
      by_cases m : b ∈ [a, pf, ps, pb]
      · rw [dl_in m] at z
        cases z
      · rw [dl_nin m] at z
        rw [dl_nin (inM b m (by rw [z]; simp))]
        exact e3 b o z
    have al : Al [y0, dy, a, pf, ps] H3 := by
      exact ((((Al.nil.cons (e3 _ _ r.hs)).cons (e3 _ _ r.hf)).cons (e3 _ _ r.ha)).cons f4).cons f3
    have pbS : pb ∉ [y0, dy, a, pf, ps] := fun c => by
      rcases List.mem_cons.mp c with rfl | c
      · rw [hb] at n3; cases n3
      rcases List.mem_cons.mp c with rfl | c
      · rw [hb] at n4; cases n4
      rcases List.mem_cons.mp c with c | c
      · exact nba c
      rcases List.mem_cons.mp c with c | c
      · exact nfb c.symm
      · exact nsb (List.mem_singleton.mp c).symm
    have D1 := dq.up DS
    have D2 : Dl K (dl [y0, dy, a, pf, ps] H3) pb s.bd := ⟨⟨wb, SqL.of (dl_at pbS (e3 _ _ hb)), dpa_ex DS bd⟩, bsm, by omega⟩
    refine ⟨[y0, dy, a, pf, ps], y0, dy, .str q.1, l, pb, ⟨.str q.1, q.2, s.bd⟩, rfl, al, List.mem_cons_self .., f3, ⟨.str _, nsm⟩, D1, D2, fun s1 s2 w1 w2 H4 k4 m1 m2 nq c0 c1 c2 B1 B2 => ⟨rfl, ?_⟩⟩
    have E04 : Ex H H4 := fun b o z => k4 b o (fun c => by rw [List.mem_singleton] at c; rw [c, n3] at z; cases z) (e3 b o z)
    have s1S : s1 ∉ [y0, dy, a, pf, ps] := al.nin m1
    have s2S : s2 ∉ [y0, dy, a, pf, ps] := al.nin m2
    have y0M : y0 ∉ [a, pf, ps] := fun c => by
      have : H y0 ≠ none := (show Al [a, pf, ps] H from ((Al.nil.cons r.hs).cons r.hf).cons r.ha) y0 c
      exact this n3
    have sub : ∀ b, b ∉ [y0, dy, a, pf, ps] → b ∉ [a, pf, ps] := fun b h c => h (List.mem_cons_of_mem _ (List.mem_cons_of_mem _ c))
    have lw := rfa.len
    walk_at "r"
    refine a_appK (E04 _ _ r.hf) (by omega) fun H5 k5 f5 => ?_
    walk_at "r"
    refine a_putK T.c_Reader T.n_Reader_head (k5.at (by simpa using nfa.symm) (E04 _ _ r.ha)) (lF _ _) fun H6 k6 g6 => ?_
    rw [rdF_head] at g6
    walk_at "r"
    have K46 : Ks [a, pf, ps] H4 H6 := (k5.k.mono (by simp)).trans (k6.k.mono (by simp))
    have K06 : Ks [a, pf, ps] H H6 := (Ks.of E04).trans K46
    have DM : Ex (dl [a, pf, ps, pb] H) (dl [a, pf, ps] H6) := fun b o z => by
      by_cases m : b ∈ [a, pf, ps, pb]
      · rw [dl_in m] at z
        cases z
      · rw [dl_nin m] at z
        have m' : b ∉ [a, pf, ps] := fun c => m (List.mem_append_left [pb] c)
        rw [dl_nin m']
        exact K06 b o m' z
    have D46 : Ex (dl [y0, dy, a, pf, ps] H4) (dl [a, pf, ps] H6) := fun b o z => by
      by_cases m : b ∈ [y0, dy, a, pf, ps]
      · rw [dl_in m] at z
        cases z
      · rw [dl_nin m] at z
        rw [dl_nin (sub b m)]
        exact K46 b o (sub b m) z
    have ff : H6 pf = some (.lst (wf ++ [.ref y0])) := k6.at (by simpa using nfa) f5
    have fs : H6 ps = some (.lst ws) := k6.at (by simpa using nsa) (k5.at (by simpa using r.ne.symm) (E04 _ _ r.hs))
    have fy := dl_at (S := [a, pf, ps]) y0M (K46 _ _ y0M c0)
    refine qy _ rfl H6 ⟨dx, pf, ps, .non, pb, _, ws, r.na, r.nf, r.ns, r.ne, ks_base r.eb K06 (fun b hb' => r.isb (by rw [hM]; exact List.mem_append_left [pb] hb')), g6, ff, fs, ?_, dpa_ex DM rsa, r.sm, fun q' hq' => (by cases hq'), fun _ => rfl, ?_, ?_, Nat.zero_le _⟩
    · refine FnAll.snoc ⟨dy, .str q.1, s1, s2, fy, ⟨.str _, nsm⟩, ⟨⟨w1, dl_at (sub _ s1S) (K46 _ _ (sub _ s1S) c1), dpa_ex D46 B1⟩, dq.sm, dq.le⟩, ⟨⟨w2, dl_at (sub _ s2S) (K46 _ _ (sub _ s2S) c2), dpa_ex D46 B2⟩, bsm, by show s.bd.length ≤ _; omega⟩⟩ (rfa.up DM)
    · show (s.fs ++ [_]).length ≤ _
      rw [List.length_append]
      exact Nat.succ_le_succ lf
    · exact Nat.le_succ_of_le ls
  · have y1 : ¬ tl x = tl "end" := fun z => y (decide_eq_true (by rw [← mkS_tl x, z, mkS_tl]))
    rw [if_neg y1] at qy qn
    have l2 : (tl "  ").length = 2 := by decide +kernel
    walk_at "r"
    refine ⟨⟨_, rfl⟩, ?_⟩
    walk_at "r"
    refine a_stw ?_
    rw [l2]
    walk_at "r"
    by_cases c : (tl x).take 2 = tl "  "
    · rw [if_pos c] at qy qn
      rw [decide_eq_true c]
      walk_at "r"
      refine a_get T.c_Reader T.n_Reader_body r.ha (rdF_b _ _ _ _) ?_
      walk_at "r"
      have ld : ((tl x).drop 2).length ≤ 50000 := by rw [List.length_drop]; omega
      refine a_cutS (r := (tl x).drop 2) hl (cut_from x 2) ?_
      walk_at "r"
      refine ⟨[a, pf, ps, pb], pb, wb, s.bd, mkS ((tl x).drop 2), rfl, by rw [tl_mkS]; exact ld, hb, by simp, mu, bd, by omega, fun d hd' ws' H1 k1 f1 dw => ?_, fun hd' H1 e1 => ?_⟩
      · rw [tl_mkS] at hd'
        rw [hd'] at qy
        walk_at "r"
        have DM : Ex (dl [a, pf, ps, pb] H) (dl [a, pf, ps, pb] H1) := dl_ks (k1.k.mono (by simp))
        have hM' : rdM (⟨s.fs, s.ss, some q, s.bd ++ [d]⟩ : Rs) a pf ps pb = [a, pf, ps, pb] := rfl
        have lb2 : (s.bd ++ [d]).length ≤ k + 1 := by
          rw [List.length_append]
          exact Nat.succ_le_succ lb
        refine qy _ rfl H1 ⟨dx, pf, ps, .ref p, pb, wf, ws, r.na, r.nf, r.ns, r.ne, ks_base r.eb k1.k (by simpa using nb), k1.at (by simpa using nba.symm) r.ha, k1.at (by simpa using nfb) r.hf, k1.at (by simpa using nsb) r.hs, rfa.up DM, dpa_ex DM rsa, r.sm, fun q' hq' => ?_, fun z => (by cases z), Nat.le_succ_of_le lf, Nat.le_succ_of_le ls, lb2⟩
        cases hq'
        exact ⟨ws', p, l, rfl, nb, nfb, nsb, f1, dw, sm_app1 bsm (st_fine hd' ld).sm, DM _ _ fp, dq.up DM, nsm⟩
      · rw [tl_mkS] at hd'
        rw [hd'] at qn
        walk_at "r"
        exact qn rfl H1 (r.eb.trans e1)
    · rw [if_neg c] at qn
      rw [decide_eq_false c]
      walk_at "r"
      exact qn rfl H r.eb
def pTk (K : PySem.W.Frag) (CR CF : Addr) : Sp := fun vs H Q _ => ∃ B a k s x, vs = [.ref a, .str x] ∧ (tl x).length ≤ 50000 ∧ Rd K CR CF B a k s H ∧ k < 90000 ∧
  (∀ s', stepL nvP s (tl x) = some s' → ∀ H1, Rd K CR CF B a (k + 1) s' H1 → Q (.bl true) H1) ∧ (stepL nvP s (tl x) = none → ∀ H1, Ex B H1 → Q (.bl false) H1)
theorem ok_Reader_takes (T : Tx K mg) : FnOk P w K mg base CX0 9 T.a_Reader_takes T.e_Reader_takes p_Reader_takes (pTk K T.C_Reader T.C_Function) := by
  refine T.d_Reader_takes.F.ok sc_Reader_takes (fun vs H Q E h => ?_) (fun cdv A outer s H vs Q E hr h => ?_)
  · obtain ⟨B, a, k, s, x, rfl, _⟩ := h
    rfl
  obtain ⟨B, a, k, s, x, rfl, hl, rd, kz, qy, qn⟩ := h
  obtain ⟨dx, pf, ps, hv, pb, wf, ws, r⟩ := rd.ex
  refine ⟨_, (pss_cons (ps_if (pt_cmpR k_notN (by exact (fldK K (pv 0) rfl)) pe_non (nomark _)) (pss_one (ps_ret (pe_meth (pv 0) T.c_Reader T.h_Reader_takes_in_function (ok_Reader_takes_in_function T) (hr.mono (by omega)) T.d_Reader_takes_in_function.b .nil pass0 (pa_cons (pv 1) pa_nil)))) pss_nil)
    (pss_cons (ps_if (PW.pt (pw_and (pt_cmpR op_eq (pe_callB (lenK K) (by rfl) T.b_len PySem.boot_len (pa_cons (by exact (fldK K (pv 0) rfl)) pa_nil)) pe_int (nomark _)) (pw_and1 (pt_val (pe_meth (pv 0) T.c_Reader T.h_Reader_takes_head (ok_Reader_takes_head T) (hr.mono (by omega)) T.d_Reader_takes_head.b .nil pass0 (pa_cons (pv 1) pa_nil)))))) (pss_one (ps_ret pe_bl)) pss_nil)
    (pss_one (ps_ret (pe_call (ok_takes_statement T) (hr.mono (by omega)) (by rfl) T.d_takes_statement.m T.d_takes_statement.F.kp T.d_takes_statement.b .nil pass0 (pa_cons (by exact (fldK K (pv 0) rfl)) (pa_cons (pv 1) pa_nil))))))), ?_⟩
  cases hd : s.hd with
  | some q =>
    obtain ⟨wb, p, l, rfl, _⟩ := (r.hh q hd).ex
    walk_at "r"
    refine a_get T.c_Reader T.n_Reader_head r.ha (rdF_h _ _ _ _) ?_
    walk_at "r"
    refine a_meth r.ha (rdF_m2 _ _ _ _) ?_
    walk_at "r"
    exact ⟨B, a, k, s, x, q, rfl, hl, rd, kz, hd, qy, qn⟩
  | none =>
    obtain rfl := r.hn hd
    rw [rs_out hd] at qy qn
    have stm : ∀ {E : XK}, ∀ H1, Rd K T.C_Reader T.C_Function B a k s H1 → (if s.ss = [] then hdL nvP (tl x) else none) = none → ∀ {dx pf ps hv pb wf ws}, RdX K T.C_Reader T.C_Function B a k s H1 dx pf ps hv pb wf ws → pTks K [.ref ps, .str x] H1 Q E := fun {E} H1 rd1 hh {dx pf ps hv pb wf ws} r1 => by
      have hM : rdM s a pf ps pb = [a, pf, ps] := by unfold rdM; rw [hd]
      have mu := r1.mu
      have sa := r1.sa
      have fa := r1.fa
      rw [hM] at mu sa fa
      have lf := r1.lf
      have ls := r1.ls
      have nsa := ins_lst r1.ha r1.hs
      rw [hh] at qy qn
      refine ⟨[a, pf, ps], ps, ws, s.ss, x, rfl, hl, r1.hs, by simp, mu, sa, by omega, fun d hd' ws' H2 k1 f1 dw => ?_, fun hd' H2 e1 => ?_⟩
      · rw [hd'] at qy
        have DM : Ex (dl [a, pf, ps] H1) (dl [a, pf, ps] H2) := dl_ks (k1.k.mono (by simp))
        have ls2 : (s.ss ++ [d]).length ≤ k + 1 := by
          rw [List.length_append]
          exact Nat.succ_le_succ ls
        obtain rfl := r1.hn hd
        exact qy _ rfl H2 ⟨dx, pf, ps, .non, pb, wf, ws', r1.na, r1.nf, r1.ns, r1.ne, ks_base r1.eb k1.k (by simpa using r1.ns), k1.at (by simpa using nsa.symm) r1.ha, k1.at (by simpa using r1.ne) r1.hf, f1, fa.up DM, dw, sm_app1 r1.sm (st_fine hd' hl).sm, fun q' hq' => (by cases hq'), fun _ => rfl, Nat.le_succ_of_le lf, ls2, Nat.zero_le _⟩
      · rw [hd'] at qn
        exact qn rfl H2 (r1.eb.trans e1)
    have lw := dpa_len r.sa
    walk_at "r"
    refine a_get T.c_Reader T.n_Reader_head r.ha (rdF_h _ _ _ _) ?_
    walk_at "r"
    refine a_get T.c_Reader T.n_Reader_statements r.ha (rdF_s _ _ _ _) ?_
    walk_at "r"
    refine a_lenL (SqL.of r.hs) ?_
    walk_at "r"
    by_cases c : s.ss = []
    · have w0 : ws.length = 0 := by rw [lw, c]; rfl
      rw [w0]
      refine ite2 (fun _ => ?_) (fun z => absurd rfl z)
      walk_at "r"
      refine a_meth r.ha (rdF_m1 _ _ _ _) ?_
      walk_at "r"
      refine ⟨B, a, k, s, x, rfl, hl, rd, hd, fun q hq H1 rd1 => ?_, fun hq H1 rd1 => ?_⟩
      · rw [if_pos c, hq] at qy
        walk_at "r"
        exact qy _ rfl H1 rd1
      · walk_at "r"
        obtain ⟨dx1, pf1, ps1, hv1, pb1, wf1, ws1, r1⟩ := rd1.ex
        refine a_get T.c_Reader T.n_Reader_statements r1.ha (rdF_s _ _ _ _) ?_
        walk_at "r"
        exact stm H1 rd1 (by rw [if_pos c]; exact hq) r1
    · have w0 : ¬ ws.length = 0 := by
        rw [lw]
        intro z
        exact c (List.eq_nil_of_length_eq_zero z)
      refine ite2 (fun z => absurd (of_decide_eq_true z) (by omega)) (fun _ => ?_)
      walk_at "r"
      refine a_get T.c_Reader T.n_Reader_statements r.ha (rdF_s _ _ _ _) ?_
      walk_at "r"
      exact stm H rd (if_neg c) r
end
section
variable {P : Program} {w : World} {K : PySem.W.Frag} {mg : Str → Option Value} {base : Heap}
open TL
theorem spl_ne {S : Ln} (hS : S ≠ []) (l acc : Ln) : spl S 0 acc l ≠ [] := by
  rw [spl_par hS]
  cases par S acc l with
  | none => simp
  | some x => simp
theorem last_of {α : Type} : ∀ {l : List α}, l ≠ [] → ∃ i x, l = i ++ [x]
  | [], h => absurd rfl h
  | a :: l, _ => ⟨(a :: l).dropLast, (a :: l).getLast (by simp), (List.dropLast_concat_getLast (by simp)).symm⟩
def lsOf (i : List Ln) (r : Ln) : List Ln := if r = [] then i else i ++ [r]
theorem res_of {nv : NV} {t : Ln} {i : List Ln} {r : Ln} (h : spl [10] 0 [] t = i ++ [r]) : resL nv t = match runL nv rs0 0 (lsOf i r) with
    | .inl k => .list [.int (k : Nat), .str "unexpected"]
    | .inr s => if r ≠ [] ∨ s.hd.isSome = true then .list [.int (i.length : Nat), .str "too short"]
      else if progD s.fs s.ss = true then .list [.list (s.fs.map fdat), .list s.ss] else .list [.int (i.length : Nat), .str "no program"] := by
  have e1 : (i ++ [r]).getLastD [] = r := by
    rw [List.getLastD_eq_getLast?, List.getLast?_concat]
    rfl
  have e2 : (i ++ [r]).dropLast = i := List.dropLast_concat
  have e3 : (i ++ [r]).length - 1 = i.length := by rw [List.length_append]; rfl
  unfold resL lsOf
  rw [h, e1, e2, e3]
  rfl
theorem run_step {nv : NV} {s s' : Rs} {k : Nat} {l : Ln} {ls : List Ln} (h : stepL nv s l = some s') : runL nv s k (l :: ls) = runL nv s' (k + 1) ls := by
  show (match stepL nv s l with | some s' => runL nv s' (k + 1) ls | none => .inl k) = _
  rw [h]
theorem run_stop {nv : NV} {s : Rs} {k : Nat} {l : Ln} {ls : List Ln} (h : stepL nv s l = none) : runL nv s k (l :: ls) = .inl k := by
  show (match stepL nv s l with | some s' => runL nv s' (k + 1) ls | none => .inl k) = _
  rw [h]
def pRp (K : PySem.W.Frag) (CP CF CT : Addr) : Sp := fun vs H Q E => ∃ x, vs = [.str x] ∧ (tl x).length ≤ 50000 ∧
  (∀ (k : Nat) r, resL nvP (tl x) = .list [.int k, .str r] → ∀ d H1, Ex H H1 → H1 d = some (.xd [("line", .int k), ("reason", .str r)]) → E (.ref CT) (some d) H1) ∧
  (∀ fs ss, resL nvP (tl x) = .list [.list (fs.map fdat), .list ss] → progD fs ss = true → ∀ z H1, H z = none → Ex H H1 → PgF K CP CF H1 z fs ss → Q (.ref z) H1)
theorem ok_read_program (T : Tx K mg) : FnOk P w K mg base (L2.CX P w) 11 T.a_read_program T.e_read_program p_read_program (pRp K T.C_Program T.C_Function T.C_TextError) := by
  refine T.d_read_program.F.okX sc_read_program (fun vs H Q E h => ?_) (fun cdv A outer s H vs Q E hr h => ?_)
  · obtain ⟨x, rfl, _⟩ := h
    rfl
  obtain ⟨x, rfl, hl, qe, q⟩ := h
  refine ⟨_, (pss_cons (ps_set (i := 1) sc_read_program.nd rfl (.inl rfl) (pe_m1 PySem.F.slot_str_split PySem.F.type_str_split mtSpl (pv 0) pe_str))
    (pss_cons (ps_set (i := 2) sc_read_program.nd rfl (.inl rfl) (pe_op op_sub (pe_callB (lenK K) (by rfl) T.b_len PySem.boot_len (pa_cons (pv 1) pa_nil)) pe_int))
    (pss_cons (ps_set (i := 3) sc_read_program.nd rfl (.inl rfl) (pe_bm0 PySem.F.plainAttrs_list PySem.F.slot_list_pop PySem.F.type_list_pop mt_pop (pv 1)))
    (pss_cons (ps_if (pt_cmpR op_ne (pv 3) pe_str (nomark _)) (pss_one (ps_expr (pe_bm PySem.F.plainAttrs_list PySem.F.slot_list_append PySem.F.type_list_append mt_append (pv 1) (pa_cons (pv 3) pa_nil)))) pss_nil)
    (pss_cons (ps_set (i := 4) sc_read_program.nd rfl (.inl rfl) (pe_make0 T.k_Reader (ok_Reader_init T) (hr.mono (by omega)) (by rfl) T.g_Reader T.d_Reader_init.b .nil pass0))
    (pss_cons (ps_for (passes_of rfl) rfl (enK K (by rfl) T.b_enumerate (pa_cons (pv 1) pa_nil)) (pg_tup (by rfl) (pgs_cons (pg_name (i := 5) sc_read_program.nd rfl (.inl rfl)) (pgs_cons (pg_name (i := 6) sc_read_program.nd rfl (.inl rfl)) pgs_nil))) (pss_one (ps_if (pt_not (pt_val (pe_meth (pv 4) T.c_Reader T.h_Reader_takes (ok_Reader_takes T) (hr.mono (by omega)) T.d_Reader_takes.b .nil pass0 (pa_cons (pv 6) pa_nil)))) (pss_one (ps_raise rfl (takes_of rfl rfl rfl rfl) (pmk_oex T.o_TextError T.i_TextError T.t_TextError (ok_TextError_init T) (hr.mono (by omega)) T.d_TextError_init.b .nil pass0 (by rfl) T.g_TextError (pa_cons (pv 5) (pa_cons pe_str pa_nil))))) pss_nil)))
    (pss_cons (ps_if (PW.pt (pw_or (pt_cmpR op_ne (pv 3) pe_str (nomark _)) (pw_or1 (pt_cmpR k_notN (by exact (fldK K (pv 4) rfl)) pe_non (nomark _))))) (pss_one (ps_raise rfl (takes_of rfl rfl rfl rfl) (pmk_oex T.o_TextError T.i_TextError T.t_TextError (ok_TextError_init T) (hr.mono (by omega)) T.d_TextError_init.b .nil pass0 (by rfl) T.g_TextError (pa_cons (pv 2) (pa_cons pe_str pa_nil))))) pss_nil)
    (pss_cons (ps_if (pt_not (pt_val (pe_call (ok_is_program T) (hr.mono (by omega)) (by rfl) T.d_is_program.m T.d_is_program.F.kp T.d_is_program.b .nil pass0 (pa_cons (by exact (fldK K (pv 4) rfl)) (pa_cons (by exact (fldK K (pv 4) rfl)) pa_nil))))) (pss_one (ps_raise rfl (takes_of rfl rfl rfl rfl) (pmk_oex T.o_TextError T.i_TextError T.t_TextError (ok_TextError_init T) (hr.mono (by omega)) T.d_TextError_init.b .nil pass0 (by rfl) T.g_TextError (pa_cons (pv 2) (pa_cons pe_str pa_nil))))) pss_nil)
    (pss_one (ps_ret (pe_makeS T.k_Program (ok_Program_init T) (hr.mono (by omega)) (by rfl) T.g_Program T.d_Program_init.b (fun σ => passAt (takes_of rfl rfl rfl rfl) σ) (pa_cons (by exact (fldK K (pv 4) rfl)) (pa_cons (by exact (fldK K (pv 4) rfl)) pa_nil))))))))))))), ?_⟩
  have sN : tl "\n" = [10] := by decide +kernel
  have hS : tl "\n" ≠ [] := by rw [sN]; simp
  walk_at "r"
  refine ⟨⟨_, rfl⟩, ?_⟩
  walk_at "r"
  refine a_spl hS (by decide +kernel) hl fun l H1 n1 e1 f1 => ?_
  rw [sN] at f1
  have cnt := spl_cnt (S := [10]) (by simp) (tl x).length (tl x) [] (Nat.le_refl _)
  have sub := spl_sub (S := [10]) (by simp) (tl x).length (tl x) [] (Nat.le_refl _)
  obtain ⟨ini, rest, hs⟩ := last_of (spl_ne (S := [10]) (by simp) (tl x) [])
  rw [res_of hs] at qe q
  rw [hs] at f1 cnt sub
  have f1 : H1 l = some (.lst (slV (ini ++ [rest]))) := by
    rw [f1]
    unfold slV
    rw [List.map_map]
    rfl
  rw [slV_app, slV_one] at f1
  walk_at "r"
  refine a_lenL (SqL.of f1) ?_
  have lI : ini.length ≤ 50000 := by rw [List.length_append] at cnt; have : [rest].length = 1 := rfl; omega
  have e0 : (((slV ini ++ [V.str (mkS rest)]).length : Nat) : Int) - 1 = (ini.length : Nat) := by rw [List.length_append, slV_len]; simp
  walk_at "r"
  rw [e0]
  walk_at "r"
  refine ⟨a_ty f1, ?_⟩
  walk_at "r"
  refine ⟨l, slV ini ++ [V.str (mkS rest)], .str (mkS rest), rfl, rfl, f1, by simp, ?_⟩
  rw [List.dropLast_concat]
  have X2 : Ex H (upd H1 l (.lst (slV ini))) := e1.mut n1
  have f2 : (upd H1 l (.lst (slV ini))) l = some (.lst (slV ini)) := upd_same
  generalize upd H1 l (.lst (slV ini)) = H2 at X2 f2 ⊢
  walk_at "r"
  have lsl : (lsOf ini rest).length ≤ 50001 := by
    unfold lsOf
    split
    · omega
    · rw [List.length_append]; have : [rest].length = 1 := rfl; omega
  have lss : ∀ y ∈ lsOf ini rest, y.length ≤ 50000 := fun y my => by
    have m2 : y ∈ ini ++ [rest] := by
      unfold lsOf at my
      split at my
      · exact List.mem_append_left _ my
      · exact my
    have := (sub y m2).length_le
    simp only [List.nil_append] at this
    omega
  have eqs : mkS rest = ("" : Str) ↔ rest = [] := ⟨fun z => by rw [← tl_mkS rest, z]; rfl, fun z => by rw [z]; rfl⟩
  have pos : ∀ ls : List Ln, lsOf ini rest = ls → ls = lsOf ini rest := fun _ z => z.symm
  refine ite2 (fun y => ?_) (fun y => ?_)
  case' refine_1 =>
    have hr0 : rest ≠ [] := fun z => by
      rw [eqs.mpr z] at y
      cases y
    have hls : lsOf ini rest = ini ++ [rest] := if_neg hr0
    walk_at "r"
    refine ⟨a_ty f2, ?_⟩
    walk_at "r"
    refine a_app f2 (by rw [slV_len]; omega) ?_
    have X3 : Ex H (upd H2 l (.lst (slV ini ++ [V.str (mkS rest)]))) := X2.mut n1
    have f3 : (upd H2 l (.lst (slV ini ++ [V.str (mkS rest)]))) l = some (.lst (slV ini ++ [V.str (mkS rest)])) := upd_same
    generalize upd H2 l (.lst (slV ini ++ [V.str (mkS rest)])) = H3 at X3 f3 ⊢
    rw [show slV ini ++ [V.str (mkS rest)] = slV (lsOf ini rest) from by rw [hls, slV_app]; rfl] at f3
  case' refine_2 =>
    have hr0 : rest = [] := by
      cases z : decide (rest = []) with
      | true => exact of_decide_eq_true z
      | false => exact absurd (by first | exact decide_eq_true (fun w => of_decide_eq_false z (eqs.mp w)) | (rw [decide_eq_false (fun w => of_decide_eq_false z (eqs.mp w))]; rfl)) y
    have hls : lsOf ini rest = ini := if_pos hr0
    walk_at "r"
    have X3 := X2
    have f3 := f2
    rw [show slV ini = slV (lsOf ini rest) from by rw [hls]] at f3
    generalize H2 = H3 at X3 f3 ⊢
  all_goals
    clear f2 X2
    have hrl : ∀ nv : NV, True := fun _ => trivial
    generalize lsOf ini rest = ls at hls lsl lss f3 qe q
    walk_at "r"
    refine a_new fun a dx H4 n4 n5 n6 e4 f4 f5 => ?_
    refine ⟨a, dx, rfl, f4, fun pf ps pb H5 k5 m1 m2 mne g5 gf gs => ⟨rfl, ?_⟩⟩
    have X35 : Ex H3 H5 := fun b o z => k5.k b o (fun c => by rw [List.mem_singleton] at c; rw [c, n4] at z; cases z) (e4 b o z)
    have rd0 : Rd K T.C_Reader T.C_Function H3 a 0 rs0 H5 := Rd.start X35 n4 (ex_none e4 m1) (ex_none e4 m2) mne g5 gf gs
    walk_at "r"
    refine ⟨l, slV ls, rfl, SqL.of (X35 _ _ f3), ?_⟩
    refine lp_enum (xs := slV ls) (fun k σ h => (∃ x5 x6, σ = [some (.str x), some (.ref l), some (.int (ini.length : Nat)), some (.str (mkS rest)), some (.ref a), x5, x6]) ∧ ∃ s, runL nvP rs0 0 ls = runL nvP s k (ls.drop k) ∧ Rd K T.C_Reader T.C_Function H3 a k s h)
      ⟨⟨_, _, rfl⟩, rs0, rfl, rd0⟩ (fun k σ h _ g => by
        obtain ⟨_, s, _, rd⟩ := g
        exact SqL.of (rd.eb _ _ f3)) ?_ ?_
    · rintro k u σ h t hk ⟨⟨x5, x6, rfl⟩, s, rn, rd⟩ nt
      obtain ⟨ln, hln, rfl⟩ := slV_at hk
      have hk1 := at_lt hln
      have dr : ls.drop k = ln :: ls.drop (k + 1) := by
        rw [List.drop_eq_getElem_cons hk1]
        rw [List.getElem?_eq_getElem hk1] at hln
        rw [Option.some.inj hln]
      rw [dr] at rn
      have e2 : Ex h (upd h t (.tup [.int (k : Nat), .str (mkS ln)])) := Ex.new nt
      have f2 : upd h t (.tup [.int (k : Nat), .str (mkS ln)]) t = some (.tup [.int (k : Nat), .str (mkS ln)]) := upd_same
      generalize upd h t (.tup [.int (k : Nat), .str (mkS ln)]) = h2 at e2 f2 ⊢
      refine w_gtup (xs := [.int (k : Nat), .str (mkS ln)]) (SqT.of f2) rfl ?_
      walk_at "r"
      have rd2 := rd.up e2
      obtain ⟨ddx, dpf, dps, dhv, dpb, dwf, dws, r⟩ := rd2.ex
      refine a_meth r.ha (rdF_m3 _ _ _ _) ?_
      walk_at "r"
      refine ⟨H3, a, k, s, mkS ln, rfl, by rw [tl_mkS]; exact lss ln (List.mem_of_getElem? hln), rd2, by omega, fun s' hs' h3 rd3 => ?_, fun hn h3 e3 => ?_⟩
      · rw [tl_mkS] at hs'
        rw [run_step hs'] at rn
        walk_at "r"
        exact ⟨⟨_, _, rfl⟩, s', rn, rd3⟩
      · rw [tl_mkS] at hn
        rw [run_stop hn] at rn
        rw [rn] at qe
        walk_at "r"
        refine mko_te fun d h4 n6 e6 f6 => ?_
        exact qe k _ rfl d h4 (X3.trans (e3.trans e6)) f6
    · rintro σ h ⟨⟨x5, x6, rfl⟩, s, rn, rd⟩
      have rn : runL nvP rs0 0 ls = .inr s := by
        rw [rn, slV_len, List.drop_length]
        rfl
      rw [rn] at qe q
      obtain ⟨dx', pf', ps', hv', pb', wf, ws, r⟩ := rd.ex
      rw [slV_len] at r
      have lf := r.lf
      have ls' := r.ls
      have Xh : Ex H h := X3.trans r.eb
      have sa := dpa_ex (dl_le _ _) r.sa
      have fa := r.fa.up (dl_le _ _)
      have tooS : rest ≠ [] ∨ s.hd.isSome = true → ∀ h4 d, Ex h h4 → h4 d = some (.xd [("line", .int (ini.length : Nat)), ("reason", .str "too short")]) → E (.ref T.C_TextError) (some d) h4 := fun c h4 d e4 f4 => by
        refine qe ini.length "too short" ?_ d h4 (Xh.trans e4) f4
        show (if rest ≠ [] ∨ s.hd.isSome = true then _ else _) = _
        rw [if_pos c]
      walk_at "r"
      refine ite2 (fun c => ?_) (fun c => ?_)
      · walk_at "r"
        refine mko_te fun d h4 n6 e6 f6 => tooS (.inl fun z => ?_) h4 d e6 f6
        rw [eqs.mpr z] at c
        cases c
      have c1 : rest = [] := by
        cases z : decide (rest = []) with
        | true => exact of_decide_eq_true z
        | false => exact absurd (by first | exact decide_eq_true (fun w => of_decide_eq_false z (eqs.mp w)) | (rw [decide_eq_false (fun w => of_decide_eq_false z (eqs.mp w))]; rfl)) c
      walk_at "r"
      refine a_get T.c_Reader T.n_Reader_head r.ha (rdF_h _ _ _ _) ?_
      cases hd : s.hd with
      | some qq =>
        obtain ⟨wb, p, ll, rfl, _⟩ := (r.hh qq hd).ex
        walk_at "r"
        refine mko_te fun d h4 n6 e6 f6 => tooS (.inr (by rw [hd]; rfl)) h4 d e6 f6
      | none =>
        obtain rfl := r.hn hd
        have nts : ¬ (rest ≠ [] ∨ s.hd.isSome = true) := fun z => by
          rcases z with z | z
          · exact z c1
          · rw [hd] at z
            cases z
        have qe : ∀ (k : Nat) r, (if progD s.fs s.ss = true then PyData.list [.list (s.fs.map fdat), .list s.ss] else .list [.int (ini.length : Nat), .str "no program"]) = .list [.int k, .str r] → ∀ d H1, Ex H H1 → H1 d = some (.xd [("line", .int k), ("reason", .str r)]) → E (.ref T.C_TextError) (some d) H1 := fun k r z => qe k r (by
          show (if rest ≠ [] ∨ s.hd.isSome = true then _ else _) = _
          rw [if_neg nts]
          exact z)
        have q : ∀ fs ss, (if progD s.fs s.ss = true then PyData.list [.list (s.fs.map fdat), .list s.ss] else .list [.int (ini.length : Nat), .str "no program"]) = .list [.list (fs.map fdat), .list ss] → progD fs ss = true → ∀ z H1, H z = none → Ex H H1 → PgF K T.C_Program T.C_Function H1 z fs ss → Q (.ref z) H1 := fun fs ss z => q fs ss (by
          show (if rest ≠ [] ∨ s.hd.isSome = true then _ else _) = _
          rw [if_neg nts]
          exact z)
        walk_at "r"
        refine a_get T.c_Reader T.n_Reader_functions r.ha (rdF_f _ _ _ _) ?_
        walk_at "r"
        refine a_get T.c_Reader T.n_Reader_statements r.ha (rdF_s _ _ _ _) ?_
        walk_at "r"
        have D1 : Dl K h ps' s.ss := ⟨⟨ws, SqL.of r.hs, sa⟩, r.sm, by omega⟩
        refine ⟨pf', ps', wf, s.fs, s.ss, rfl, SqL.of r.hf, fa, by omega, D1, fun h3 e3 => ?_⟩
        walk_at "r"
        refine ite2 (fun c => ?_) (fun c => ?_)
        · have cp : progD s.fs s.ss = false := by
            cases z : progD s.fs s.ss with
            | false => rfl
            | true => rw [z] at c; cases c
          rw [if_neg (by rw [cp]; intro z; cases z)] at qe
          walk_at "r"
          refine mko_te fun d h4 n6 e6 f6 => qe _ _ rfl d h4 (Xh.trans (e3.trans e6)) f6
        have cp : progD s.fs s.ss = true := by
          cases z : progD s.fs s.ss with
          | true => rfl
          | false => rw [z] at c; exact absurd rfl c
        rw [if_pos cp] at q
        walk_at "r"
        refine a_get T.c_Reader T.n_Reader_functions (e3 _ _ r.ha) (rdF_f _ _ _ _) ?_
        walk_at "r"
        refine a_get T.c_Reader T.n_Reader_statements (e3 _ _ r.ha) (rdF_s _ _ _ _) ?_
        walk_at "r"
        refine a_newS fun z dz h4 n7 n8 n9 e7 f7 f8 => ?_
        have N := ex_two n7 n8 e7
        have E3 := Xh.trans e3
        refine ⟨[z, dz], z, dz, pf', ps', wf, s.fs, s.ss, rfl, (Al.nil.cons f8).cons f7, List.mem_cons_self .., f7, SqL.of (N _ _ (e3 _ _ r.hf)), fa.up (e3.trans N), by omega, D1.up (e3.trans N), fun _ q1 q2 w1 w2 h5 k3 m1 m2 c0 c1 A1 _ c2 B2 => ⟨rfl, ?_⟩, fun c d h5 k3 m1 c1 => ?_⟩
        · have E5 : Ex H h5 := fun b o y => k3 b o (fun w => ne_of_none (E3 b o y) n7 (by simpa using w)) (e7 b o (E3 b o y))
          have O := dl_le [z, dz] h5
          exact q s.fs s.ss rfl cp z h5 (ex_none E3 n7) E5 ⟨dz, q1, q2, w1, w2, c0, c1, A1.up O, c2, dpa_ex O B2⟩
        · rw [cp] at c
          cases c
end
section
variable {P : Program} {w : World} {K : PySem.W.Frag} {mg : Str → Option Value} {base : Heap}
open TL
structure Tkl (l : Ln) : Prop where
  le : l.length ≤ 50000
  dg : (l.filter digB).length ≤ 600
theorem Tkl.sub {l w : Ln} (t : Tkl l) (s : w.Sublist l) : Tkl w := ⟨Nat.le_trans s.length_le t.le, Nat.le_trans (s.filter _).length_le t.dg⟩
theorem Tkl.num {l : Ln} (t : Tkl l) (h : nuL l = true) : l.length ≤ 640 := by
  unfold nuL at h
  rw [Bool.and_eq_true, Bool.and_eq_true] at h
  have e : l.filter digB = l := List.filter_eq_self.mpr fun c m => List.all_eq_true.mp h.1.2 c m
  have := t.dg
  rw [e] at this
  omega
def ch1 (c : Nat) : V := .str ⟨#[c]⟩
theorem flt_zero (p : Nat → Bool) (l : Ln) : ((l.filter fun c => !p c).length = 0) ↔ l.all p = true := by
  rw [List.length_eq_zero_iff, List.filter_eq_nil_iff, List.all_eq_true]
  constructor
  · intro h c m
    have := h c m
    cases e : p c with
    | true => rfl
    | false => rw [e] at this; exact absurd rfl this
  · intro h c m
    rw [h c m]
    simp
theorem em_iff {x : Str} : x = ("" : Str) ↔ (tl x).length = 0 := ⟨fun z => by rw [z]; rfl, fun z => ext_tl (List.eq_nil_of_length_eq_zero z)⟩
def pLn (K : PySem.W.Frag) : Sp := fun vs H Q _ => ∃ x, vs = [.str x] ∧ (tl x).length ≤ 50000 ∧ ∀ H1, Ex H H1 → Q (.bl (nmL (tl x))) H1
theorem ok__law_is_name (T : Tx K mg) : FnOk P w K mg base CX0 1 T.a__law_is_name T.e__law_is_name p__law_is_name (pLn K) := by
  refine T.d__law_is_name.F.ok sc__law_is_name (fun vs H Q E h => ?_) (fun cdv A outer s H vs Q E hr h => ?_)
  · obtain ⟨x, rfl, _⟩ := h
    rfl
  obtain ⟨x, rfl, hl, q⟩ := h
  refine ⟨_, (pss_one (ps_ret (pe_and (pe_cmpR op_ne (pv 0) pe_str (nomark _)) (pe_one (pe_cmpR op_eq (pe_callB (lenK K) (by rfl) T.b_len PySem.boot_len (pa_cons (pe_lc (own := [("sign", 1)]) (g := gName 1) rfl sc__law_is_name.nd  (pi_str (pv 0)) (blkOk_by (own := [("sign", 1)]) (N := n__law_is_name) (sc := defScope s__law_is_name) (by decide +kernel)) (fun _ _ _ _ _ => (pg_name (i := 1) sc__law_is_name.nd rfl (Or.inl rfl))) (fun _ _ _ _ _ => (pts_one (pt_cmpR k_ninS (pv 1) pe_str (by rfl)))) (fun _ _ _ _ _ => (pv 1))) pa_nil)) pe_int (nomark _)))))), ?_⟩
  have hx := len_tl x
  have en : nmL (tl x) = (decide (0 < (tl x).length) && (tl x).all lowB) := rfl
  walk_at "r"
  refine ite2 (fun y => ?_) (fun y => ?_)
  · have y1 : 0 < (tl x).length := by
      rcases Nat.eq_zero_or_pos (tl x).length with z | z
      · rw [decide_eq_true (em_iff.mpr z)] at y
        cases y
      · exact z
    rw [decide_eq_true y1, Bool.true_and] at en
    walk_at "r"
    refine cp_chars (z := x) (fun l k h => Ex H h ∧ h l = some (.lst (((x.cps.toList.take k).filter fun c => !lowB c).map ch1))) (fun l n => ⟨Ex.new n, upd_same⟩) ?_ ?_
    · rintro l k ch h nl hxk ⟨e, f⟩
      have hk : k < x.length := (Array.getElem?_eq_some_iff.mp hxk).1
      have hx' : x.cps.toList[k]? = some ch := by rw [Array.getElem?_toList]; exact hxk
      walk_at "r"
      refine ⟨rfl, ?_⟩
      walk_at "r"
      refine a_ninS (b := lowB ch) (PySem.StrLaws.found_one signs ch) ?_
      cases hc : lowB ch with
      | true =>
        refine ⟨false, rfl, ?_⟩
        refine ite2 (fun z => absurd z (by decide)) (fun _ => ?_)
        refine ⟨e, ?_⟩
        rw [take_snoc hx', List.filter_append, List.map_append, f]
        simp [hc]
      | false =>
        refine ⟨true, rfl, ?_⟩
        refine ite2 (fun _ => ?_) (fun z => absurd rfl z)
        walk_at "r"
        refine ⟨_, f, sz_lt (by
          rw [List.length_map]
          have h1 := List.length_filter_le (fun c => !lowB c) (x.cps.toList.take k)
          rw [List.length_take] at h1
          omega), e.mut nl, ?_⟩
        rw [upd_same, take_snoc hx', List.filter_append, List.map_append]
        simp [hc, ch1]
    · rintro l h nl ⟨e, f⟩
      have e3 : x.cps.toList.take x.cps.size = tl x := List.take_of_length_le (by simp)
      rw [e3] at f
      walk_at "r"
      refine a_lenL (SqL.of f) ?_
      walk_at "r"
      rw [List.length_map]
      have g := q h e
      rw [en] at g
      have : decide (((((tl x).filter fun c => !lowB c).length : Nat) : Int) = 0) = (tl x).all lowB := by
        rw [Bool.eq_iff_iff, decide_eq_true_iff, ← flt_zero]
        omega
      rw [this]
      exact g
  · have g := q H (Ex.refl _)
    have y0 : ¬ 0 < (tl x).length := fun z => by
      rw [decide_eq_false (fun w => by have := em_iff.mp w; omega)] at y
      exact y rfl
    rw [en, decide_eq_false y0, Bool.false_and] at g
    exact g
def pLu (K : PySem.W.Frag) : Sp := fun vs H Q _ => ∃ x, vs = [.str x] ∧ Tkl (tl x) ∧ (nuL (tl x) = true → ∀ H1, Ex H H1 → Q (.int (nvL (tl x) : Nat)) H1) ∧ (nuL (tl x) = false → ∀ H1, Ex H H1 → Q .non H1)
theorem ok__law_number (T : Tx K mg) : FnOk P w K mg base CX0 1 T.a__law_number T.e__law_number p__law_number (pLu K) := by
  refine T.d__law_number.F.ok sc__law_number (fun vs H Q E h => ?_) (fun cdv A outer s H vs Q E hr h => ?_)
  · obtain ⟨x, rfl, _⟩ := h
    rfl
  obtain ⟨x, rfl, tk, qy, qn⟩ := h
  refine ⟨_, (pss_cons (ps_if (PW.pt (pw_or (pt_cmpR op_eq (pv 0) pe_str (nomark _)) (pw_or (pt_cmpR op_gt (pe_callB (lenK K) (by rfl) T.b_len PySem.boot_len (pa_cons (pe_lc (own := [("sign", 1)]) (g := gName 1) rfl sc__law_number.nd  (pi_str (pv 0)) (blkOk_by (own := [("sign", 1)]) (N := n__law_number) (sc := defScope s__law_number) (by decide +kernel)) (fun _ _ _ _ _ => (pg_name (i := 1) sc__law_number.nd rfl (Or.inl rfl))) (fun _ _ _ _ _ => (pts_one (pt_cmpR k_ninS (pv 1) pe_str (by rfl)))) (fun _ _ _ _ _ => (pv 1))) pa_nil)) pe_int (nomark _)) (pw_or1 (PW.pt (pw_and (pt_cmpR op_gt (pe_callB k_lenS (by rfl) T.b_len PySem.boot_len (pa_cons (pv 0) pa_nil)) pe_int (nomark _)) (pw_and1 (pt_cmpR op_eq (pe_ix ix_str (pv 0) pe_int (fun _ _ => rfl)) pe_str (nomark _))))))))) (pss_one (ps_ret pe_non)) pss_nil)
    (pss_one (ps_ret (pe_callTy intSK (by rfl) T.b_int (by decide +kernel) (pa_cons (pv 0) pa_nil))))), ?_⟩
  have hl := tk.le
  have hx := len_tl x
  have en : nuL (tl x) = ((decide (0 < (tl x).length) && (tl x).all digB) && !(decide ((tl x).head? = some 48) && decide (1 < (tl x).length))) := rfl
  walk_at "r"
  refine ite2 (fun y => ?_) (fun y => ?_)
  · have y0 : ¬ 0 < (tl x).length := fun z => by
      have := em_iff.mp (of_decide_eq_true y)
      omega
    rw [decide_eq_false y0, Bool.false_and, Bool.false_and] at en
    walk_at "r"
    exact qn en H (Ex.refl _)
  have y1 : 0 < (tl x).length := by
    rcases Nat.eq_zero_or_pos (tl x).length with z | z
    · exact absurd (decide_eq_true (em_iff.mpr z)) y
    · exact z
  rw [decide_eq_true y1, Bool.true_and] at en
  obtain ⟨c, r, ex⟩ : ∃ c r, tl x = c :: r := by
    cases ht : tl x with
    | nil => rw [ht] at y1; exact absurd y1 (by decide)
    | cons c r => exact ⟨c, r, rfl⟩
  walk_at "r"
  refine cp_chars (z := x) (fun l k h => Ex H h ∧ h l = some (.lst (((x.cps.toList.take k).filter fun c => !digB c).map ch1))) (fun l n => ⟨Ex.new n, upd_same⟩) ?_ ?_
  · rintro l k ch h nl hxk ⟨e, f⟩
    have hk : k < x.length := (Array.getElem?_eq_some_iff.mp hxk).1
    have hx' : x.cps.toList[k]? = some ch := by rw [Array.getElem?_toList]; exact hxk
    walk_at "r"
    refine ⟨rfl, ?_⟩
    walk_at "r"
    refine a_ninS (b := digB ch) (PySem.StrLaws.found_one "0123456789" ch) ?_
    cases hc : digB ch with
    | true =>
      refine ⟨false, rfl, ?_⟩
      refine ite2 (fun z => absurd z (by decide)) (fun _ => ?_)
      refine ⟨e, ?_⟩
      rw [take_snoc hx', List.filter_append, List.map_append, f]
      simp [hc]
    | false =>
      refine ⟨true, rfl, ?_⟩
      refine ite2 (fun _ => ?_) (fun z => absurd rfl z)
      walk_at "r"
      refine ⟨_, f, sz_lt (by
        rw [List.length_map]
        have h1 := List.length_filter_le (fun c => !digB c) (x.cps.toList.take k)
        rw [List.length_take] at h1
        omega), e.mut nl, ?_⟩
      rw [upd_same, take_snoc hx', List.filter_append, List.map_append]
      simp [hc, ch1]
  rintro l h nl ⟨e, f⟩
  have e3 : x.cps.toList.take x.cps.size = tl x := List.take_of_length_le (by simp)
  rw [e3] at f
  walk_at "r"
  refine a_lenL (SqL.of f) ?_
  walk_at "r"
  rw [List.length_map]
  have fz := flt_zero digB (tl x)
  refine ite2 (fun y => ?_) (fun y => ?_)
  · have y2 : (tl x).all digB = false := by
      cases z : (tl x).all digB with
      | false => rfl
      | true =>
        have := fz.mpr z
        have := of_decide_eq_true y
        omega
    rw [y2, Bool.false_and] at en
    walk_at "r"
    exact qn en h e
  have y2 : (tl x).all digB = true := fz.mp (by
    rcases Nat.eq_zero_or_pos ((tl x).filter fun c => !digB c).length with z | z
    · exact z
    · exact absurd (decide_eq_true (by omega)) y)
  rw [y2, Bool.true_and] at en
  have eh : ((tl x).head? = some 48) ↔ c = 48 := by
    rw [ex]
    exact ⟨fun z => Option.some.inj z, fun z => by rw [z]; rfl⟩
  have e48 : (decide ((⟨#[c]⟩ : Str) = "0")) = decide (c = 48) := by
    refine decide_eq_decide.mpr ⟨fun z => ?_, fun z => ?_⟩
    · have := congrArg tl z
      rw [show tl "0" = [48] from by decide +kernel] at this
      exact (List.cons.inj this).1
    · rw [z]
      exact ext_tl (by rw [show tl "0" = [48] from by decide +kernel])
  have fin : nuL (tl x) = true → rIntS [V.str x] h Q := fun z => by
    have := a_intS (Q := Q) (H := h) z (tk.num z) (qy z h e)
    rw [mkS_tl] at this
    exact this
  walk_at "r"
  refine a_lenS (by omega) ?_
  walk_at "r"
  refine ite2 (fun y => ?_) (fun y => ?_)
  · have l1 : 1 < (tl x).length := by
      have := of_decide_eq_true y
      omega
    rw [decide_eq_true l1, Bool.and_true] at en
    walk_at "r"
    refine ⟨x, 0, c, rfl, rfl, by rw [hx]; exact lt_line (by omega), atI_nat (j := 0) (by show (tl x)[0]? = some c; rw [ex]; rfl), ?_⟩
    walk_at "r"
    rw [e48]
    by_cases c48 : c = 48
    · rw [decide_eq_true c48]
      rw [decide_eq_true (eh.mpr c48)] at en
      walk_at "r"
      exact qn en h e
    · rw [decide_eq_false c48]
      rw [decide_eq_false (fun z => c48 (eh.mp z))] at en
      walk_at "r"
      exact fin en
  · have l1 : ¬ 1 < (tl x).length := fun z => y (decide_eq_true (by omega))
    rw [decide_eq_false l1, Bool.and_false] at en
    walk_at "r"
    exact fin en
end
section
variable {P : Program} {w : World} {K : PySem.W.Frag} {mg : Str → Option Value} {base : Heap}
open TL
theorem kd_nu {nv : NV} {l : Ln} (h : nuL l = true) : kdL nv l = some (.int (nv l)) := by
  have hd := nu_dig h
  have ne : l ≠ [] := fun z => by rw [z] at h; cases h
  unfold kdL
  rw [if_neg, if_pos h]
  intro z
  rw [List.all_eq_true] at z
  obtain ⟨c, r, rfl⟩ : ∃ c r, l = c :: r := by
    cases l with
    | nil => exact absurd rfl ne
    | cons c r => exact ⟨c, r, rfl⟩
  have hc := hd c (List.mem_cons_self ..)
  rcases spW_mem (l := c :: r) (acc := []) (c := c) (by simp) with e | ⟨w, mw, cw⟩
  · omega
  · have := of_decide_eq_true (z w mw)
    rw [rt_eq] at this
    simp only [List.mem_cons, List.not_mem_nil, or_false] at this
    rcases this with rfl | rfl | rfl | rfl <;> simp at cw <;> omega
theorem nul_null : nuL (tl "null") = false := by decide +kernel
theorem sr_eq (nv : NV) (l : Ln) : srL nv l = if nuL l = true then some (.tuple [.str "number", .int (nv l)]) else if l = tl "null" then some (.tuple [.str "null"]) else if l.head? = some 38 then (plL l.tail).map fun q => .tuple [.str "address", plD q.1 q.2] else (plL l).map fun q => .tuple [.str "value", plD q.1 q.2] := by
  unfold srL
  by_cases a : l = tl "null"
  · rw [if_pos a, if_neg (by rw [a, nul_null]; simp), if_pos a]
  · rw [if_neg a]
    by_cases b : nuL l = true
    · rw [if_pos b, if_pos b]
    · rw [if_neg b, if_neg b, if_neg a]
def pLt (K : PySem.W.Frag) : Sp := fun vs H Q _ => ∃ x, vs = [.str x] ∧ Tkl (tl x) ∧ (∀ d, kdL nvL (tl x) = some d → ∀ v H1, Ex H H1 → v ≠ .non → Dp K H1 v d → Q v H1) ∧ (kdL nvL (tl x) = none → ∀ H1, Ex H H1 → Q .non H1)
theorem ok__law_type (T : Tx K mg) : FnOk P w K mg base CX0 2 T.a__law_type T.e__law_type p__law_type (pLt K) := by
  refine T.d__law_type.F.ok sc__law_type (fun vs H Q E h => ?_) (fun cdv A outer s H vs Q E hr h => ?_)
  · obtain ⟨x, rfl, _⟩ := h
    rfl
  obtain ⟨x, rfl, tk, qy, qn⟩ := h
  refine ⟨_, (pss_cons (ps_if (pt_cmpR k_notN (pe_call (ok__law_number T) (hr.mono (by omega)) (by rfl) T.d__law_number.m T.d__law_number.F.kp T.d__law_number.b .nil pass0 (pa_cons (pv 0) pa_nil)) pe_non (nomark _)) (pss_one (ps_ret (pe_call (ok__law_number T) (hr.mono (by omega)) (by rfl) T.d__law_number.m T.d__law_number.F.kp T.d__law_number.b .nil pass0 (pa_cons (pv 0) pa_nil)))) pss_nil)
    (pss_cons (ps_set (i := 1) sc__law_type.nd rfl (.inl rfl) (pe_m1 PySem.F.slot_str_split PySem.F.type_str_split mtSpl (pv 0) pe_str))
    (pss_cons (ps_if (pt_cmpR op_gt (pe_callB (lenK K) (by rfl) T.b_len PySem.boot_len (pa_cons (pe_lc (own := [("word", 2)]) (g := gName 2) rfl sc__law_type.nd  (plK K (pv 1)) (blkOk_by (own := [("word", 2)]) (N := n__law_type) (sc := defScope s__law_type) (by decide +kernel)) (fun _ _ _ _ _ => (pg_name (i := 2) sc__law_type.nd rfl (Or.inl rfl))) (fun _ _ _ _ _ => (pts_one (pt_cmpR (ninK K) (pv 2) (pe_tup (pa_cons pe_str (pa_cons pe_str (pa_cons pe_str (pa_cons pe_str pa_nil))))) (by rfl)))) (fun _ _ _ _ _ => (pv 2))) pa_nil)) pe_int (nomark _)) (pss_one (ps_ret pe_non)) pss_nil)
    (pss_one (ps_ret (pe_callTy (tupFK K) (by rfl) T.b_tuple (by decide +kernel) (pa_cons (pv 1) pa_nil))))))), ?_⟩
  have hl := tk.le
  have s32 : tl " " = [32] := by decide +kernel
  have wl := spW_len (l := tl x)
  walk_at "r"
  refine ⟨x, rfl, tk, fun hn H1 e1 => ?_, fun hn H1 e1 => ?_⟩
  · walk_at "r"
    refine ⟨x, rfl, tk, fun _ H2 e2 => ?_, fun h0 => absurd (hn.symm.trans h0) (by simp)⟩
    exact qy _ (kd_nu hn) _ H2 (e1.trans e2) (by intro z; cases z) (.int _)
  walk_at "r"
  refine ⟨⟨_, rfl⟩, ?_⟩
  walk_at "r"
  refine a_spl (by rw [s32]; simp) (by decide +kernel) hl fun p H2 n2 e2 f2 => ?_
  rw [s32] at f2
  have f2' : H2 p = some (.lst (slV (spW (tl x)))) := by
    rw [f2]
    unfold slV
    rw [List.map_map]
    rfl
  walk_at "r"
  refine c_L (SqL.of f2') ?_
  refine cp_list (xs := slV (spW (tl x))) (fun d j hh => Ex H2 hh ∧ hh d = some (.lst (slV (((spW (tl x)).take j).filter fun w => !decide (w ∈ RT))))) (fun d n => ⟨Ex.new n, upd_same⟩) (fun d j hh _ _ y => SqL.of (y.1 _ _ f2')) ?_ ?_
  · rintro d j u hh nd hj ⟨Y, fd⟩
    obtain ⟨wd, hw, rfl⟩ := slV_at hj
    have jl := at_lt hw
    walk_at "r"
    refine ⟨rfl, ?_⟩
    walk_at "r"
    refine new_tup (xs := [.str "rw", .str "r", .str "w", .str "-"]) (by simp) fun t H3 n3 e3 f3 => ?_
    refine a_ninT (SqT.of f3) rfl rfl ?_
    have ri : inV (.str (mkS wd)) [.str "rw", .str "r", .str "w", .str "-"] = decide (wd ∈ RT) := rt_in wd
    rw [ri]
    cases hc : decide (wd ∈ RT) with
    | true =>
      refine ⟨false, rfl, ?_⟩
      refine ite2 (fun z => absurd z (by decide)) (fun _ => ?_)
      refine ⟨Y.trans e3, ?_⟩
      rw [take_snoc hw, List.filter_append, e3 _ _ fd]
      simp [hc]
    | false =>
      refine ⟨true, rfl, ?_⟩
      refine ite2 (fun _ => ?_) (fun z => absurd rfl z)
      walk_at "r"
      refine ⟨_, e3 _ _ fd, sz_lt (by
        rw [slV_len]
        have h1 := List.length_filter_le (fun w => !decide (w ∈ RT)) ((spW (tl x)).take j)
        rw [List.length_take] at h1
        omega), (Y.trans e3).mut nd, ?_⟩
      rw [upd_same, take_snoc hw, List.filter_append, slV_app]
      simp [hc, slV_one]
  rintro d hh nd ⟨Y, fd⟩
  rw [slV_len, List.take_length] at fd
  walk_at "r"
  refine a_lenL (SqL.of fd) ?_
  walk_at "r"
  rw [slV_len]
  have fz : ((spW (tl x)).filter fun w => !decide (w ∈ RT)).length = 0 ↔ (spW (tl x)).all (fun w => decide (w ∈ RT)) = true := by
    rw [List.length_eq_zero_iff, List.filter_eq_nil_iff, List.all_eq_true]
    constructor
    · intro h c m
      have := h c m
      cases e : decide (c ∈ RT) with
      | true => rfl
      | false => rw [e] at this; exact absurd rfl this
    · intro h c m
      rw [h c m]
      simp
  have ek : kdL nvL (tl x) = if (spW (tl x)).all (fun w => decide (w ∈ RT)) = true then some (.tuple ((spW (tl x)).map fun w => .str (mkS w))) else if nuL (tl x) = true then some (.int (nvL (tl x))) else none := rfl
  refine ite2 (fun y => ?_) (fun y => ?_)
  · have a0 : ¬ (spW (tl x)).all (fun w => decide (w ∈ RT)) = true := fun z => by
      have := fz.mpr z
      have := of_decide_eq_true y
      omega
    rw [if_neg a0, if_neg (by rw [hn]; simp)] at ek
    walk_at "r"
    exact qn ek hh (e1.trans (e2.trans Y))
  · have a1 : (spW (tl x)).all (fun w => decide (w ∈ RT)) = true := fz.mp (by
      rcases Nat.eq_zero_or_pos ((spW (tl x)).filter fun w => !decide (w ∈ RT)).length with z | z
      · exact z
      · exact absurd (decide_eq_true (by omega)) y)
    rw [if_pos a1] at ek
    walk_at "r"
    refine a_tupFL (SqL.of (Y _ _ f2')) fun t H3 n3 e3 f3 => ?_
    refine qy _ ek _ H3 (e1.trans (e2.trans (Y.trans e3))) (by intro z; cases z) (.tup (Tu.st f3) ?_)
    unfold slV
    rw [List.map_map]
    have key : ∀ l : List Ln, DpAll K H3 (l.map (V.str ∘ mkS)) (l.map fun w => .str (mkS w)) := by
      intro l
      induction l with
      | nil => exact .nil
      | cons a l ih => exact .cons (.str _) ih
    exact key _
def pLp (K : PySem.W.Frag) : Sp := fun vs H Q _ => ∃ x, vs = [.str x] ∧ (tl x).length ≤ 50000 ∧ (∀ q, plL (tl x) = some q → ∀ p H1, Ex H H1 → H1 p = some (.tup [.str q.1, .int (q.2 : Nat)]) → Q (.ref p) H1) ∧ (plL (tl x) = none → ∀ H1, Ex H H1 → Q .non H1)
theorem ok__law_place (T : Tx K mg) : FnOk P w K mg base CX0 2 T.a__law_place T.e__law_place p__law_place (pLp K) := by
  refine T.d__law_place.F.ok sc__law_place (fun vs H Q E h => ?_) (fun cdv A outer s H vs Q E hr h => ?_)
  · obtain ⟨x, rfl, _⟩ := h
    rfl
  obtain ⟨x, rfl, hl, qy, qn⟩ := h
  refine ⟨_, (pss_cons (ps_set (i := 1) sc__law_place.nd rfl (.inl rfl) (pe_m1 PySem.F.slot_str_lstrip PySem.F.type_str_lstrip mtLsC (pv 0) pe_str))
    (pss_cons (ps_if (pt_not (pt_val (pe_call (ok__law_is_name T) (hr.mono (by omega)) (by rfl) T.d__law_is_name.m T.d__law_is_name.F.kp T.d__law_is_name.b .nil pass0 (pa_cons (pv 1) pa_nil)))) (pss_one (ps_ret pe_non)) pss_nil)
    (pss_one (ps_ret (pe_tup (pa_cons (pv 1) (pa_cons (pe_op op_sub (pe_callB k_lenS (by rfl) T.b_len PySem.boot_len (pa_cons (pv 0) pa_nil)) (pe_callB k_lenS (by rfl) T.b_len PySem.boot_len (pa_cons (pv 1) pa_nil))) pa_nil))))))), ?_⟩
  have ld := dw_len (tl x)
  have hx := len_tl x
  have ep : plL (tl x) = if nmL ((tl x).dropWhile (· == 42)) = true then some (mkS ((tl x).dropWhile (· == 42)), (tl x).length - ((tl x).dropWhile (· == 42)).length) else none := rfl
  walk_at "r"
  refine ⟨⟨_, rfl⟩, ?_⟩
  walk_at "r"
  refine a_lst hl ?_
  walk_at "r"
  refine ⟨_, rfl, by rw [tl_mkS]; omega, fun H1 e1 => ?_⟩
  rw [tl_mkS]
  walk_at "r"
  by_cases hn : nmL ((tl x).dropWhile (· == 42)) = true
  · rw [if_pos hn] at ep
    rw [hn]
    walk_at "r"
    refine a_lenS (by omega) ?_
    walk_at "r"
    refine a_lenS (by rw [mkS_len]; omega) ?_
    walk_at "r"
    rw [show (x.length : Int) - ((mkS ((tl x).dropWhile (· == 42))).length : Nat) = (((tl x).length - ((tl x).dropWhile (· == 42)).length : Nat) : Int) from by rw [mkS_len]; omega]
    refine new_tup (xs := [.str (mkS ((tl x).dropWhile (· == 42))), .int (((tl x).length - ((tl x).dropWhile (· == 42)).length : Nat) : Int)]) (by simp) fun p H2 n2 e2 f2 => ?_
    exact qy _ ep p H2 (e1.trans e2) f2
  · rw [if_neg hn] at ep
    rw [show nmL ((tl x).dropWhile (· == 42)) = false from by cases h : nmL ((tl x).dropWhile (· == 42)) with | false => rfl | true => exact absurd h hn]
    walk_at "r"
    exact qn ep H1 e1
def pLs (K : PySem.W.Frag) : Sp := fun vs H Q _ => ∃ x, vs = [.str x] ∧ Tkl (tl x) ∧ (∀ d, srL nvL (tl x) = some d → ∀ p H1, Ex H H1 → Dp K H1 (.ref p) d → Q (.ref p) H1) ∧ (srL nvL (tl x) = none → ∀ H1, Ex H H1 → Q .non H1)
theorem ok__law_source_of (T : Tx K mg) : FnOk P w K mg base CX0 3 T.a__law_source_of T.e__law_source_of p__law_source_of (pLs K) := by
  refine T.d__law_source_of.F.ok sc__law_source_of (fun vs H Q E h => ?_) (fun cdv A outer s H vs Q E hr h => ?_)
  · obtain ⟨x, rfl, _⟩ := h
    rfl
  obtain ⟨x, rfl, tk, qy, qn⟩ := h
  refine ⟨_, (pss_cons (ps_if (pt_cmpR k_notN (pe_call (ok__law_number T) (hr.mono (by omega)) (by rfl) T.d__law_number.m T.d__law_number.F.kp T.d__law_number.b .nil pass0 (pa_cons (pv 0) pa_nil)) pe_non (nomark _)) (pss_one (ps_ret (pe_tup (pa_cons pe_str (pa_cons (pe_call (ok__law_number T) (hr.mono (by omega)) (by rfl) T.d__law_number.m T.d__law_number.F.kp T.d__law_number.b .nil pass0 (pa_cons (pv 0) pa_nil)) pa_nil))))) pss_nil)
    (pss_cons (ps_if (pt_cmpR op_eq (pv 0) pe_str (nomark _)) (pss_one (ps_ret (pe_tup (pa_cons pe_str pa_nil)))) pss_nil)
    (pss_cons (ps_set (i := 1) sc__law_source_of.nd rfl (.inl rfl) pe_str)
    (pss_cons (ps_if (pt_cmpR op_eq (pe_slice sl_str (pv 0) po_none (po_some pe_int)) pe_str (nomark _)) (pss_cons (ps_set (i := 1) sc__law_source_of.nd rfl (.inl rfl) pe_str)
    (pss_one (ps_set (i := 0) sc__law_source_of.nd rfl (.inl rfl) (pe_slice sl_str (pv 0) (po_some pe_int) po_none)))) pss_nil)
    (pss_cons (ps_set (i := 2) sc__law_source_of.nd rfl (.inl rfl) (pe_call (ok__law_place T) (hr.mono (by omega)) (by rfl) T.d__law_place.m T.d__law_place.F.kp T.d__law_place.b .nil pass0 (pa_cons (pv 0) pa_nil)))
    (pss_cons (ps_if (pt_cmpR k_isN (pv 2) pe_non (nomark _)) (pss_one (ps_ret pe_non)) pss_nil)
    (pss_one (ps_ret (pe_tup (pa_cons (pv 1) (pa_cons (pv 2) pa_nil))))))))))), ?_⟩
  have hl := tk.le
  have es := sr_eq nvL (tl x)
  walk_at "r"
  refine ⟨x, rfl, tk, fun hn H1 e1 => ?_, fun hn H1 e1 => ?_⟩
  · rw [if_pos hn] at es
    walk_at "r"
    refine ⟨x, rfl, tk, fun _ H2 e2 => ?_, fun h0 => absurd (hn.symm.trans h0) (by simp)⟩
    walk_at "r"
    refine new_tup (xs := [.str "number", .int (nvL (tl x) : Nat)]) (by simp) fun p H3 n3 e3 f3 => ?_
    exact qy _ es p H3 (e1.trans (e2.trans e3)) (.tup (SqT.of f3) (.cons (.str _) (.cons (.int _) .nil)))
  rw [if_neg (by rw [hn]; simp)] at es
  walk_at "r"
  refine ite2 (fun y => ?_) (fun y => ?_)
  · have y1 : x = "null" := of_decide_eq_true y
    rw [if_pos (by rw [y1])] at es
    walk_at "r"
    refine new_tup (xs := [.str "null"]) (by simp) fun p H2 n2 e2 f2 => ?_
    exact qy _ es p H2 (e1.trans e2) (.tup (SqT.of f2) (.cons (.str _) .nil))
  have y1 : ¬ tl x = tl "null" := fun z => y (decide_eq_true (ext_tl z))
  rw [if_neg y1] at es
  walk_at "r"
  refine a_cutS (r := (tl x).take 1) hl (cut_to x 1) ?_
  walk_at "r"
  have s38 : tl "&" = [38] := by decide +kernel
  have eh : (decide (mkS ((tl x).take 1) = ("&" : Str))) = decide ((tl x).head? = some 38) := by
    refine decide_eq_decide.mpr ⟨fun z => ?_, fun z => ?_⟩
    · have := congrArg tl z
      rw [tl_mkS, s38] at this
      cases h : tl x with
      | nil => rw [h] at this; cases this
      | cons c r =>
        rw [h] at this
        have : c = 38 := by simpa using this
        rw [this]
        rfl
    · refine ext_tl ?_
      rw [tl_mkS, s38]
      cases h : tl x with
      | nil => rw [h] at z; cases z
      | cons c r =>
        rw [h] at z
        have : c = 38 := Option.some.inj z
        rw [this]
        rfl
  rw [eh]
  refine ite2 (fun y2 => ?_) (fun y2 => ?_)
  · have h38 := of_decide_eq_true y2
    rw [if_pos h38] at es
    walk_at "r"
    refine a_cutS (r := (tl x).tail) hl (by rw [show (1 : Int) = ((1 : Nat) : Int) from rfl, cut_from, List.drop_one]) ?_
    walk_at "r"
    refine ⟨_, rfl, by rw [tl_mkS, List.length_tail]; omega, fun q hq p H2 e2 f2 => ?_, fun hq H2 e2 => ?_⟩
    · rw [tl_mkS] at hq
      rw [hq] at es
      walk_at "r"
      refine new_tup (xs := [.str "address", .ref p]) (by simp) fun p3 H3 n3 e3 f3 => ?_
      exact qy _ es p3 H3 (e1.trans (e2.trans e3)) (.tup (SqT.of f3) (.cons (.str _) (.cons (.tup (SqT.of (e3 _ _ f2)) (.cons (.str _) (.cons (.int _) .nil))) .nil)))
    · rw [tl_mkS] at hq
      rw [hq] at es
      walk_at "r"
      exact qn es H2 (e1.trans e2)
  · have h38 : ¬ (tl x).head? = some 38 := fun z => y2 (decide_eq_true z)
    rw [if_neg h38] at es
    walk_at "r"
    refine ⟨x, rfl, hl, fun q hq p H2 e2 f2 => ?_, fun hq H2 e2 => ?_⟩
    · rw [hq] at es
      walk_at "r"
      refine new_tup (xs := [.str "value", .ref p]) (by simp) fun p3 H3 n3 e3 f3 => ?_
      exact qy _ es p3 H3 (e1.trans (e2.trans e3)) (.tup (SqT.of f3) (.cons (.str _) (.cons (.tup (SqT.of (e3 _ _ f2)) (.cons (.str _) (.cons (.int _) .nil))) .nil)))
    · rw [hq] at es
      walk_at "r"
      exact qn es H2 (e1.trans e2)
end
section
variable {P : Program} {w : World} {K : PySem.W.Frag} {mg : Str → Option Value} {base : Heap}
open TL
theorem par_drop {S l a b : Ln} (h : par S [] l = some (a, b)) : l.drop (a.length + S.length) = b := by
  rw [par_eq h, ← List.append_assoc, List.drop_left' (by rw [List.length_append])]
theorem par_take {S l a b : Ln} (h : par S [] l = some (a, b)) : l.take a.length = a := by
  rw [par_eq h, List.take_left' rfl]
def pLd : Sp := fun vs H Q _ => ∃ x, vs = [.str x, .str " : ", .str " = "] ∧ (tl x).length ≤ 50000 ∧
  (∀ a r b c, par (tl " : ") [] (tl x) = some (a, r) → par (tl " = ") [] r = some (b, c) → ∀ p H1, Ex H H1 → H1 p = some (.lst [.str (mkS a), .str (mkS b), .str (mkS c)]) → Q (.ref p) H1) ∧
  ((par (tl " : ") [] (tl x) = none ∨ ∃ a r, par (tl " : ") [] (tl x) = some (a, r) ∧ par (tl " = ") [] r = none) → ∀ H1, Ex H H1 → Q .non H1)
theorem ok__law_parted (T : Tx K mg) : FnOk P w K mg base CX0 1 T.a__law_parted T.e__law_parted p__law_parted pLd := by
  refine T.d__law_parted.F.ok sc__law_parted (fun vs H Q E h => ?_) (fun cdv A outer s H vs Q E hr h => ?_)
  · obtain ⟨x, rfl, _⟩ := h
    rfl
  obtain ⟨x, rfl, hl, qy, qn⟩ := h
  refine ⟨_, (pss_cons (ps_if (PW.pt (pw_or (pt_cmpR k_ninS (pv 1) (pv 0) (by rfl)) (pw_or1 (pt_cmpR k_ninS (pv 2) (pe_slice sl_str (pv 0) (po_some (pe_op op_add (pe_bmS PySem.F.plainAttrs_str PySem.F.slot_str_index PySem.F.type_str_index (mtIxF rfl) (pv 0) (pa_cons (pv 1) pa_nil)) (pe_callB k_lenS (by rfl) T.b_len PySem.boot_len (pa_cons (pv 1) pa_nil)))) po_none) (by rfl))))) (pss_one (ps_ret pe_non)) pss_nil)
    (pss_cons (ps_set (i := 3) sc__law_parted.nd rfl (.inl rfl) (pe_slice sl_str (pv 0) (po_some (pe_op op_add (pe_bmS PySem.F.plainAttrs_str PySem.F.slot_str_index PySem.F.type_str_index (mtIxF rfl) (pv 0) (pa_cons (pv 1) pa_nil)) (pe_callB k_lenS (by rfl) T.b_len PySem.boot_len (pa_cons (pv 1) pa_nil)))) po_none))
    (pss_one (ps_ret (pe_lst (pa_cons (pe_slice sl_str (pv 0) po_none (po_some (pe_bmS PySem.F.plainAttrs_str PySem.F.slot_str_index PySem.F.type_str_index (mtIxF rfl) (pv 0) (pa_cons (pv 1) pa_nil)))) (pa_cons (pe_slice sl_str (pv 3) po_none (po_some (pe_bmS PySem.F.plainAttrs_str PySem.F.slot_str_index PySem.F.type_str_index (mtIxF rfl) (pv 3) (pa_cons (pv 2) pa_nil)))) (pa_cons (pe_slice sl_str (pv 3) (po_some (pe_op op_add (pe_bmS PySem.F.plainAttrs_str PySem.F.slot_str_index PySem.F.type_str_index (mtIxF rfl) (pv 3) (pa_cons (pv 2) pa_nil)) (pe_callB k_lenS (by rfl) T.b_len PySem.boot_len (pa_cons (pv 2) pa_nil)))) po_none) pa_nil)))))))), ?_⟩
  have h1 : tl " : " ≠ [] := by rw [sCol]; simp
  have h2 : tl " = " ≠ [] := by rw [sEq]; simp
  have l1 : (" : " : Str).length = 3 := by decide +kernel
  have l2 : (" = " : Str).length = 3 := by decide +kernel
  have m1 : (tl " : ").length = 3 := by decide +kernel
  have m2 : (tl " = ").length = 3 := by decide +kernel
  walk_at "r"
  refine a_hasT h1 ?_
  cases hp : par (tl " : ") [] (tl x) with
  | none =>
    walk_at "r"
    exact qn (.inl hp) H (Ex.refl _)
  | some ar =>
    obtain ⟨a, r⟩ := ar
    have pl := par_len hp
    have c1 : cutS x (some ((a.length : Int) + 3)) none = mkS r := by
      rw [show ((a.length : Int) + 3) = ((a.length + 3 : Nat) : Int) from by omega, cut_from, ← m1, par_drop hp]
    refine ⟨false, rfl, ?_⟩
    refine ite2 (fun z => absurd z (by decide)) (fun _ => ?_)
    walk_at "r"
    refine ⟨rfl, ?_⟩
    walk_at "r"
    refine a_idx h1 hp ?_
    walk_at "r"
    refine a_lenS (by rw [l1]; decide) ?_
    rw [l1]
    walk_at "r"
    refine a_cutS hl c1 ?_
    walk_at "r"
    refine a_hasT h2 ?_
    rw [tl_mkS]
    cases hq : par (tl " = ") [] r with
    | none =>
      walk_at "r"
      exact qn (.inr ⟨a, r, hp, hq⟩) H (Ex.refl _)
    | some bc =>
      obtain ⟨b, c⟩ := bc
      refine ⟨false, rfl, ?_⟩
      refine ite2 (fun z => absurd z (by decide)) (fun _ => ?_)
      have hlr : (tl (mkS r)).length ≤ 50000 := by rw [tl_mkS]; omega
      have hq' : par (tl " = ") [] (tl (mkS r)) = some (b, c) := by rw [tl_mkS]; exact hq
      have c2 : cutS (mkS r) (some ((b.length : Int) + 3)) none = mkS c := by
        rw [show ((b.length : Int) + 3) = ((b.length + 3 : Nat) : Int) from by omega, cut_from, ← m2, tl_mkS, par_drop hq]
      have c3 : cutS x none (some ((a.length : Nat) : Int)) = mkS a := by rw [cut_to, par_take hp]
      have c4 : cutS (mkS r) none (some ((b.length : Nat) : Int)) = mkS b := by rw [cut_to, tl_mkS, par_take hq]
      walk_at "r"
      refine ⟨rfl, ?_⟩
      walk_at "r"
      refine a_idx h1 hp ?_
      walk_at "r"
      refine a_lenS (by rw [l1]; decide) ?_
      rw [l1]
      walk_at "r"
      refine a_cutS hl c1 ?_
      walk_at "r"
      refine ⟨rfl, ?_⟩
      walk_at "r"
      refine a_idx h1 hp ?_
      walk_at "r"
      refine a_cutS hl c3 ?_
      walk_at "r"
      refine ⟨rfl, ?_⟩
      walk_at "r"
      refine a_idx h2 hq' ?_
      walk_at "r"
      refine a_cutS hlr c4 ?_
      walk_at "r"
      refine ⟨rfl, ?_⟩
      walk_at "r"
      refine a_idx h2 hq' ?_
      walk_at "r"
      refine a_lenS (by rw [l2]; decide) ?_
      rw [l2]
      walk_at "r"
      refine a_cutS hlr c2 ?_
      walk_at "r"
      refine new_lst (xs := [.str (mkS a), .str (mkS b), .str (mkS c)]) (by simp) fun p H1 n1 e1 f1 => ?_
      exact qy a r b c hp hq p H1 e1 f1
end
section
variable {P : Program} {w : World} {K : PySem.W.Frag} {mg : Str → Option Value} {base : Heap}
open TL
def pSl (K : PySem.W.Frag) (f : Ln → Option PyData) : Sp := fun vs H Q _ => ∃ x, vs = [.str x] ∧ Tkl (tl x) ∧ (∀ d, f (tl x) = some d → ∀ p H1, Ex H H1 → (∀ M, Mu M H → Dp K (dl M H1) (.ref p) d) → Q (.ref p) H1) ∧ (f (tl x) = none → ∀ H1, Ex H H1 → Q .non H1)
theorem ok__law_let (T : Tx K mg) : FnOk P w K mg base CX0 4 T.a__law_let T.e__law_let p__law_let (pSl K (ltL nvL)) := by
  refine T.d__law_let.F.ok sc__law_let (fun vs H Q E h => ?_) (fun cdv A outer s H vs Q E hr h => ?_)
  · obtain ⟨x, rfl, _⟩ := h
    rfl
  obtain ⟨x, rfl, tk, qy, qn⟩ := h
  refine ⟨_, (pss_cons (ps_set (i := 1) sc__law_let.nd rfl (.inl rfl) (pe_call (ok__law_parted T) (hr.mono (by omega)) (by rfl) T.d__law_parted.m T.d__law_parted.F.kp T.d__law_parted.b .nil pass0 (pa_cons (pv 0) (pa_cons pe_str (pa_cons pe_str pa_nil)))))
    (pss_cons (ps_if (PW.pt (pw_or (pt_cmpR k_isN (pv 1) pe_non (nomark _)) (pw_or (pt_not (pt_val (pe_call (ok__law_is_name T) (hr.mono (by omega)) (by rfl) T.d__law_is_name.m T.d__law_is_name.F.kp T.d__law_is_name.b .nil pass0 (pa_cons (pe_ix (ixL K) (pv 1) pe_int (fun _ _ => rfl)) pa_nil)))) (pw_or (pt_cmpR k_isN (pe_call (ok__law_type T) (hr.mono (by omega)) (by rfl) T.d__law_type.m T.d__law_type.F.kp T.d__law_type.b .nil pass0 (pa_cons (pe_ix (ixL K) (pv 1) pe_int (fun _ _ => rfl)) pa_nil)) pe_non (nomark _)) (pw_or1 (pt_cmpR k_isN (pe_call (ok__law_source_of T) (hr.mono (by omega)) (by rfl) T.d__law_source_of.m T.d__law_source_of.F.kp T.d__law_source_of.b .nil pass0 (pa_cons (pe_ix (ixL K) (pv 1) pe_int (fun _ _ => rfl)) pa_nil)) pe_non (nomark _))))))) (pss_one (ps_ret pe_non)) pss_nil)
    (pss_one (ps_ret (pe_tup (pa_cons pe_str (pa_cons (pe_ix (ixL K) (pv 1) pe_int (fun _ _ => rfl)) (pa_cons (pe_call (ok__law_type T) (hr.mono (by omega)) (by rfl) T.d__law_type.m T.d__law_type.F.kp T.d__law_type.b .nil pass0 (pa_cons (pe_ix (ixL K) (pv 1) pe_int (fun _ _ => rfl)) pa_nil)) (pa_cons (pe_call (ok__law_source_of T) (hr.mono (by omega)) (by rfl) T.d__law_source_of.m T.d__law_source_of.F.kp T.d__law_source_of.b .nil pass0 (pa_cons (pe_ix (ixL K) (pv 1) pe_int (fun _ _ => rfl)) pa_nil)) pa_nil))))))))), ?_⟩
  have hl := tk.le
  rw [← let_eq] at qy qn
  have el : lawLet nvL (tl x) = match par (tl " : ") [] (tl x) with
    | none => none
    | some (a, r) => match par (tl " = ") [] r with
      | none => none
      | some (b, c) => if nmL a = true then (kdL nvL b).bind fun k => (srL nvL c).map fun s => .tuple [.str "let", .str (mkS a), k, s] else none := rfl
  walk_at "r"
  refine ⟨x, rfl, hl, fun a r b c hp hq p H1 e1 f1 => ?_, fun hn H1 e1 => ?_⟩
  · rw [hp] at el
    have el : lawLet nvL (tl x) = match par (tl " = ") [] r with
      | none => none
      | some (b, c) => if nmL a = true then (kdL nvL b).bind fun k => (srL nvL c).map fun s => .tuple [.str "let", .str (mkS a), k, s] else none := el
    rw [hq] at el
    have el : lawLet nvL (tl x) = if nmL a = true then (kdL nvL b).bind fun k => (srL nvL c).map fun s => .tuple [.str "let", .str (mkS a), k, s] else none := el
    obtain ⟨sa, sr⟩ := par_sub hp
    obtain ⟨sb, sc⟩ := par_sub hq
    have ta := tk.sub sa
    have tb := tk.sub (sb.trans sr)
    have tc := tk.sub (sc.trans sr)
    have i0 : ∀ {G : Hp}, Ex H1 G → SqL K G p [.str (mkS a), .str (mkS b), .str (mkS c)] := fun e => SqL.of (e _ _ f1)
    walk_at "r"
    refine a_ixL (v := .str (mkS a)) (i0 (Ex.refl _)) (atI_nat (j := 0) rfl) ?_
    walk_at "r"
    refine ⟨mkS a, rfl, by rw [tl_mkS]; exact ta.le, fun H2 e2 => ?_⟩
    rw [tl_mkS]
    walk_at "r"
    by_cases hn : nmL a = true
    · rw [if_pos hn] at el
      rw [hn]
      walk_at "r"
      refine a_ixL (v := .str (mkS b)) (i0 e2) (atI_nat (j := 1) rfl) ?_
      walk_at "r"
      refine ⟨mkS b, rfl, by rw [tl_mkS]; exact tb, fun k hk v H3 e3 nv dv => ?_, fun hk H3 e3 => ?_⟩
      · rw [tl_mkS] at hk
        rw [hk] at el
        walk_at "r"
        refine a_isNv nv ?_
        walk_at "r"
        refine a_ixL (v := .str (mkS c)) (i0 (e2.trans e3)) (atI_nat (j := 2) rfl) ?_
        walk_at "r"
        refine ⟨mkS c, rfl, by rw [tl_mkS]; exact tc, fun d hd p4 H4 e4 dd => ?_, fun hd H4 e4 => ?_⟩
        · rw [tl_mkS] at hd
          rw [hd] at el
          have E4 := e2.trans (e3.trans e4)
          walk_at "r"
          refine a_ixL (v := .str (mkS a)) (i0 E4) (atI_nat (j := 0) rfl) ?_
          walk_at "r"
          refine a_ixL (v := .str (mkS b)) (i0 E4) (atI_nat (j := 1) rfl) ?_
          walk_at "r"
          refine ⟨mkS b, rfl, by rw [tl_mkS]; exact tb, fun k' hk' v H5 e5 nv dv => ?_, fun hk' => ?_⟩
          · rw [tl_mkS, hk] at hk'
            cases hk'
            walk_at "r"
            refine a_ixL (v := .str (mkS c)) (i0 (E4.trans e5)) (atI_nat (j := 2) rfl) ?_
            walk_at "r"
            refine ⟨mkS c, rfl, by rw [tl_mkS]; exact tc, fun d' hd' p6 H6 e6 dd => ?_, fun hd' => ?_⟩
            · rw [tl_mkS, hd] at hd'
              cases hd'
              walk_at "r"
              refine new_tup (xs := [.str "let", .str (mkS a), v, .ref p6]) (by simp) fun p7 H7 n7 e7 f7 => ?_
              have E17 := e1.trans (E4.trans (e5.trans (e6.trans e7)))
              refine qy _ el p7 H7 E17 fun M mu => (mu.ex E17).dp (.tup (SqT.of f7) ?_) ?_
              · exact .cons (.str _) (.cons (.str _) (.cons (dp_ex (e6.trans e7) dv) (.cons (dp_ex e7 dd) .nil)))
              · have n1 := (kd_fine hk tb.le).2
                have n2 := (sr_fine hd tc.le).2
                show (ntD k && (ntD d && true)) = true
                rw [n1, n2]
                rfl
            · rw [tl_mkS, hd] at hd'
              cases hd'
          · rw [tl_mkS, hk] at hk'
            cases hk'
        · rw [tl_mkS] at hd
          rw [hd] at el
          walk_at "r"
          exact qn el H4 (e1.trans (e2.trans (e3.trans e4)))
      · rw [tl_mkS] at hk
        rw [hk] at el
        walk_at "r"
        exact qn el H3 (e1.trans (e2.trans e3))
    · rw [if_neg hn] at el
      rw [show nmL a = false from by cases h : nmL a with | false => rfl | true => exact absurd h hn]
      walk_at "r"
      exact qn el H2 (e1.trans e2)
  · have el : lawLet nvL (tl x) = none := by
      rcases hn with hn | ⟨a, r, hp, hq⟩
      · rw [hn] at el
        exact el
      · rw [hp] at el
        have el : lawLet nvL (tl x) = match par (tl " = ") [] r with
          | none => none
          | some (b, c) => if nmL a = true then (kdL nvL b).bind fun k => (srL nvL c).map fun s => .tuple [.str "let", .str (mkS a), k, s] else none := el
        rw [hq] at el
        exact el
    walk_at "r"
    exact qn el H1 e1
theorem ok__law_put (T : Tx K mg) : FnOk P w K mg base CX0 4 T.a__law_put T.e__law_put p__law_put (pSl K (ptL nvL)) := by
  refine T.d__law_put.F.ok sc__law_put (fun vs H Q E h => ?_) (fun cdv A outer s H vs Q E hr h => ?_)
  · obtain ⟨x, rfl, _⟩ := h
    rfl
  obtain ⟨x, rfl, tk, qy, qn⟩ := h
  refine ⟨_, (pss_cons (ps_if (pt_cmpR k_ninS pe_str (pv 0) (by rfl)) (pss_one (ps_ret pe_non)) pss_nil)
    (pss_cons (ps_set (i := 1) sc__law_put.nd rfl (.inl rfl) (pe_bmS PySem.F.plainAttrs_str PySem.F.slot_str_index PySem.F.type_str_index (mtIxF rfl) (pv 0) (pa_cons pe_str pa_nil)))
    (pss_cons (ps_set (i := 2) sc__law_put.nd rfl (.inl rfl) (pe_call (ok__law_place T) (hr.mono (by omega)) (by rfl) T.d__law_place.m T.d__law_place.F.kp T.d__law_place.b .nil pass0 (pa_cons (pe_slice sl_str (pv 0) po_none (po_some (pv 1))) pa_nil)))
    (pss_cons (ps_set (i := 3) sc__law_put.nd rfl (.inl rfl) (pe_call (ok__law_source_of T) (hr.mono (by omega)) (by rfl) T.d__law_source_of.m T.d__law_source_of.F.kp T.d__law_source_of.b .nil pass0 (pa_cons (pe_slice sl_str (pv 0) (po_some (pe_op op_add (pv 1) pe_int)) po_none) pa_nil)))
    (pss_cons (ps_if (PW.pt (pw_or (pt_cmpR k_isN (pv 2) pe_non (nomark _)) (pw_or1 (pt_cmpR k_isN (pv 3) pe_non (nomark _))))) (pss_one (ps_ret pe_non)) pss_nil)
    (pss_one (ps_ret (pe_tup (pa_cons pe_str (pa_cons (pv 2) (pa_cons (pv 3) pa_nil))))))))))), ?_⟩
  have hl := tk.le
  have h2 : tl " = " ≠ [] := by rw [sEq]; simp
  have m2 : (tl " = ").length = 3 := by decide +kernel
  have el : ptL nvL (tl x) = match par (tl " = ") [] (tl x) with
    | none => none
    | some (a, b) => (plL a).bind fun q => (srL nvL b).map fun s => .tuple [.str "put", plD q.1 q.2, s] := rfl
  walk_at "r"
  refine a_hasT h2 ?_
  cases hp : par (tl " = ") [] (tl x) with
  | none =>
    rw [hp] at el
    walk_at "r"
    exact qn el H (Ex.refl _)
  | some ab =>
    obtain ⟨a, b⟩ := ab
    rw [hp] at el
    have el : ptL nvL (tl x) = (plL a).bind fun q => (srL nvL b).map fun s => .tuple [.str "put", plD q.1 q.2, s] := el
    obtain ⟨sa, sb⟩ := par_sub hp
    have ta := tk.sub sa
    have tb := tk.sub sb
    have c1 : cutS x (some ((a.length : Int) + 3)) none = mkS b := by
      rw [show ((a.length : Int) + 3) = ((a.length + 3 : Nat) : Int) from by omega, cut_from, ← m2, par_drop hp]
    have c3 : cutS x none (some ((a.length : Nat) : Int)) = mkS a := by rw [cut_to, par_take hp]
    refine ⟨false, rfl, ?_⟩
    refine ite2 (fun z => absurd z (by decide)) (fun _ => ?_)
    walk_at "r"
    refine ⟨rfl, ?_⟩
    walk_at "r"
    refine a_idx h2 hp ?_
    walk_at "r"
    refine a_cutS hl c3 ?_
    walk_at "r"
    refine ⟨mkS a, rfl, by rw [tl_mkS]; exact ta.le, fun q hq p H1 e1 f1 => ?_, fun hq H1 e1 => ?_⟩
    · rw [tl_mkS] at hq
      rw [hq] at el
      walk_at "r"
      refine a_cutS hl c1 ?_
      walk_at "r"
      refine ⟨mkS b, rfl, by rw [tl_mkS]; exact tb, fun d hd p2 H2 e2 dd => ?_, fun hd H2 e2 => ?_⟩
      · rw [tl_mkS] at hd
        rw [hd] at el
        walk_at "r"
        refine new_tup (xs := [.str "put", .ref p, .ref p2]) (by simp) fun p4 H4 n4 e4 f4 => ?_
        have E14 := e1.trans (e2.trans e4)
        refine qy _ el p4 H4 E14 fun M mu => (mu.ex E14).dp (.tup (SqT.of f4) ?_) ?_
        · exact .cons (.str _) (.cons (.tup (SqT.of (e4 _ _ (e2 _ _ f1))) (.cons (.str _) (.cons (.int _) .nil))) (.cons (dp_ex e4 dd) .nil))
        · have n2 := (sr_fine hd tb.le).2
          show (ntD d && true) = true
          rw [n2]
          rfl
      · rw [tl_mkS] at hd
        rw [hd] at el
        walk_at "r"
        exact qn el H2 (e1.trans e2)
    · rw [tl_mkS] at hq
      rw [hq] at el
      walk_at "r"
      refine a_cutS hl c1 ?_
      walk_at "r"
      refine ⟨mkS b, rfl, by rw [tl_mkS]; exact tb, fun d hd p2 H2 e2 dd => ?_, fun hd H2 e2 => ?_⟩
      · walk_at "r"
        exact qn el H2 (e1.trans e2)
      · walk_at "r"
        exact qn el H2 (e1.trans e2)
end
section
variable {P : Program} {w : World} {K : PySem.W.Frag} {mg : Str → Option Value} {base : Heap}
open TL
theorem p40_in {l a b : Ln} (h : par [40] [] l = some (a, b)) (hb : b.getLast? = some 41) : l.dropLast.drop (a.length + 1) = b.dropLast := by
  have e := par_eq h
  have nb : b ≠ [] := fun z => by rw [z] at hb; cases hb
  have e2 : l = (a ++ [40]) ++ b := by rw [e]; simp
  rw [e2, List.dropLast_append_of_ne_nil nb, List.drop_left' (by rw [List.length_append]; rfl)]
theorem p40_last {l a b : Ln} (h : par [40] [] l = some (a, b)) : l.getLast? = some 41 ↔ b.getLast? = some 41 := by
  have e := par_eq h
  rcases List.eq_nil_or_concat b with z | ⟨r, d, z⟩
  · rw [e, z]
    simp
  · rw [e, z]
    have : a ++ ([40] ++ r.concat d) = (a ++ [40] ++ r) ++ [d] := by simp
    rw [this, List.getLast?_concat]
    simp
theorem cl_eq {l a b : Ln} (h : par [40] [] l = some (a, b)) : clL l = if (nmL a && decide (b.getLast? = some 41)) = true then some (mkS a, ptsL b.dropLast) else none := by
  unfold clL
  rw [h]
theorem cl_no {l : Ln} (h : par [40] [] l = none) : clL l = none := by
  unfold clL
  rw [h]
theorem bne {b : Bool} (h : ¬ b = true) : b = false := by
  cases b with
  | false => rfl
  | true => exact absurd rfl h
theorem tok_pts {l : Ln} (t : Tkl l) : ∀ w ∈ ptsL l, Tkl w := fun w m => t.sub (pts_sub l w m)
theorem ok__law_call (T : Tx K mg) : FnOk P w K mg base CX0 4 T.a__law_call T.e__law_call p__law_call (pSl K (caL nvL)) := by
  refine T.d__law_call.F.ok sc__law_call (fun vs H Q E h => ?_) (fun cdv A outer s H vs Q E hr h => ?_)
  · obtain ⟨x, rfl, _⟩ := h
    rfl
  obtain ⟨x, rfl, tk, qy, qn⟩ := h
  have hu := hu_of hr
  refine ⟨_, (pss_cons (ps_if (PW.pt (pw_or (pt_cmpR k_ninS pe_str (pv 0) (by rfl)) (pw_or (pt_cmpR op_ne (pe_slice sl_str (pv 0) (po_some (pe_un un_neg pe_int)) po_none) pe_str (nomark _)) (pw_or1 (pt_not (pt_val (pe_call (ok__law_is_name T) (hr.mono (by omega)) (by rfl) T.d__law_is_name.m T.d__law_is_name.F.kp T.d__law_is_name.b .nil pass0 (pa_cons (pe_slice sl_str (pv 0) po_none (po_some (pe_bmS PySem.F.plainAttrs_str PySem.F.slot_str_index PySem.F.type_str_index (mtIxF rfl) (pv 0) (pa_cons pe_str pa_nil)))) pa_nil)))))))) (pss_one (ps_ret pe_non)) pss_nil)
    (pss_cons (ps_set (i := 1) sc__law_call.nd rfl (.inl rfl) (pe_slice sl_str (pv 0) (po_some (pe_op op_add (pe_bmS PySem.F.plainAttrs_str PySem.F.slot_str_index PySem.F.type_str_index (mtIxF rfl) (pv 0) (pa_cons pe_str pa_nil)) pe_int)) (po_some (pe_un un_neg pe_int))))
    (pss_cons (ps_set (i := 2) sc__law_call.nd rfl (.inl rfl) (pe_lst pa_nil))
    (pss_cons (ps_if (pt_cmpR op_ne (pv 1) pe_str (nomark _)) (pss_one (ps_setLc (i := 2) (own := [("part", 3)]) (g := gName 3) rfl sc__law_call.nd rfl rfl (sw_true rfl rfl rfl (by decide +kernel)) (plK K (pe_m1 PySem.F.slot_str_split PySem.F.type_str_split mtSpl (pv 1) pe_str)) (blkOk_by (own := [("part", 3)]) (N := n__law_call) (sc := defScope s__law_call) (by decide +kernel)) (fun _ _ _ _ _ => (pg_name (i := 3) sc__law_call.nd rfl (Or.inl rfl))) (fun _ _ _ _ _ => pts_nil) (fun _ _ _ _ _ => (pe_call (ok__law_source_of T) (hr.mono (by omega)) (by rfl) T.d__law_source_of.m T.d__law_source_of.F.kp T.d__law_source_of.b .nil pass0 (pa_cons (pv 3) pa_nil))))) pss_nil)
    (pss_cons (ps_if (pt_cmpR (inDK K (hd_of hr)) pe_non (pv 2) (by rfl)) (pss_one (ps_ret pe_non)) pss_nil)
    (pss_one (ps_ret (pe_tup (pa_cons pe_str (pa_cons (pe_slice sl_str (pv 0) po_none (po_some (pe_bmS PySem.F.plainAttrs_str PySem.F.slot_str_index PySem.F.type_str_index (mtIxF rfl) (pv 0) (pa_cons pe_str pa_nil)))) (pa_cons (pv 2) pa_nil))))))))))), ?_⟩
  have hl := tk.le
  have sS : tl "(" = [40] := by decide +kernel
  have s41 : tl ")" = [41] := by decide +kernel
  have hS : tl "(" ≠ [] := by rw [sS]; simp
  have eh : caL nvL (tl x) = (clL (tl x)).bind fun q => (oAll (srL nvL) q.2).map fun ss => .tuple [.str "call", .str q.1, .list ss] := rfl
  walk_at "r"
  refine a_hasT hS ?_
  cases hp0 : par (tl "(") [] (tl x) with
  | none =>
    have hp := hp0
    rw [sS] at hp
    rw [cl_no hp] at eh
    walk_at "r"
    exact qn eh H (Ex.refl _)
  | some ab =>
  obtain ⟨a, b⟩ := ab
  have hp := hp0
  rw [sS] at hp
  rw [cl_eq hp] at eh
  obtain ⟨sa, sb⟩ := par_sub hp
  have ta := tk.sub sa
  have tb := tk.sub sb
  refine ⟨false, rfl, ?_⟩
  refine ite2 (fun z => absurd z (by decide)) (fun _ => ?_)
  walk_at "r"
  refine a_cutS hl (cut_last x) ?_
  walk_at "r"
  have el : (decide (mkS ((tl x).drop ((tl x).length - 1)) = (")" : Str))) = decide (b.getLast? = some 41) := by
    refine decide_eq_decide.mpr ?_
    rw [← p40_last hp, ← last_one]
    exact ⟨fun z => by
      have := congrArg tl z
      rw [tl_mkS, s41] at this
      exact this, fun z => by rw [z]; exact ext_tl s41.symm⟩
  rw [el]
  by_cases c41 : b.getLast? = some 41
  rotate_left
  · rw [decide_eq_false c41]
    rw [decide_eq_false c41, Bool.and_false, if_neg (by simp)] at eh
    walk_at "r"
    exact qn eh H (Ex.refl _)
  rw [decide_eq_true c41]
  rw [decide_eq_true c41, Bool.and_true] at eh
  have c3 : cutS x none (some ((a.length : Nat) : Int)) = mkS a := by rw [cut_to, par_take hp]
  refine ite2 (fun z => absurd z (by decide)) (fun _ => ?_)
  walk_at "r"
  refine ⟨rfl, ?_⟩
  walk_at "r"
  refine a_idx hS hp0 ?_
  walk_at "r"
  refine a_cutS hl c3 ?_
  walk_at "r"
  refine ⟨mkS a, rfl, by rw [tl_mkS]; exact ta.le, fun H1 e1 => ?_⟩
  rw [tl_mkS]
  walk_at "r"
  by_cases hn : nmL a = true
  rotate_left
  · rw [if_neg hn] at eh
    rw [bne hn]
    walk_at "r"
    exact qn eh H1 e1
  rw [if_pos hn] at eh
  have eh : caL nvL (tl x) = (oAll (srL nvL) (ptsL b.dropLast)).map fun ss => .tuple [.str "call", .str (mkS a), .list ss] := eh
  rw [hn]
  walk_at "r"
  refine ⟨rfl, ?_⟩
  walk_at "r"
  refine a_idx hS hp0 ?_
  walk_at "r"
  have c4 : cutS x (some ((a.length : Int) + 1)) (some (-1)) = mkS b.dropLast := by
    rw [show ((a.length : Int) + 1) = ((a.length + 1 : Nat) : Int) from by omega, cut_but, p40_in hp c41]
  refine a_cutS hl c4 ?_
  walk_at "r"
  refine new_lst (xs := []) (by simp) fun d0 H2 n2 e2 f2 => ?_
  walk_at "r"
  have ti := tb.sub (List.dropLast_sublist b)
  have tp := tok_pts ti
  have pc := pts_cnt b.dropLast
  generalize hin : b.dropLast = inn at *
  have eqs : mkS inn = ("" : Str) ↔ inn = [] := ⟨fun z => by rw [← tl_mkS inn, z]; rfl, fun z => by rw [z]; rfl⟩
  have tl_ := ti.le
  refine ite2 (fun y => ?_) (fun y => ?_)
  case' refine_1 =>
    have hi : inn ≠ [] := fun z => by
      rw [decide_eq_true (eqs.mpr z)] at y
      cases y
    have hpt : ptsL inn = spl (tl ", ") 0 [] inn := if_neg hi
    walk_at "r"
    refine ⟨⟨_, rfl⟩, ?_⟩
    walk_at "r"
    refine a_spl (by rw [sCom]; simp) (by decide +kernel) (by rw [tl_mkS]; omega) fun l H3 n3 e3 f3 => ?_
    rw [tl_mkS, ← hpt] at f3
    have f3 : H3 l = some (.lst (slV (ptsL inn))) := by
      rw [f3]
      unfold slV
      rw [List.map_map]
      rfl
    refine c_L (SqL.of f3) ?_
    refine cp_list (xs := slV (ptsL inn)) (fun d j hh => Ex H3 hh ∧ ∃ ws, hh d = some (.lst ws) ∧ DpAll K hh ws (((ptsL inn).take j).map fun a => oD (srL nvL a))) (fun d n => ⟨Ex.new n, [], upd_same, .nil⟩) (fun d j hh _ _ y => SqL.of (y.1 _ _ f3)) ?_ ?_
    · rintro d j u hh nd hj ⟨Y, ws, fd, dw⟩
      obtain ⟨pt, hpt, rfl⟩ := slV_at hj
      have jl := at_lt hpt
      have sl := tp pt (List.mem_of_getElem? hpt)
      have lw := dpa_len dw
      rw [List.length_map, List.length_take] at lw
      have ntw : ntA (((ptsL inn).take j).map fun a => oD (srL nvL a)) = true := nt_all fun b hb => by
        obtain ⟨a, ma, rfl⟩ := List.mem_map.mp hb
        cases hd : srL nvL a with
        | none => rfl
        | some q => exact (sr_fine hd (tp a (List.mem_of_mem_take ma)).le).2
      walk_at "r"
      refine ⟨rfl, ?_⟩
      walk_at "r"
      refine ⟨mkS pt, rfl, by rw [tl_mkS]; exact sl, fun q2 hq2 p2 H4 e4 du => ?_, fun hq2 H4 e4 => ?_⟩
      · rw [tl_mkS] at hq2
        have kt := Kt.mut (o := .lst (ws ++ [.ref p2])) (e4 _ _ fd)
        refine ⟨ws, e4 _ _ fd, sz_lt (by omega), (Y.trans e4).mut nd, _, upd_same, ?_⟩
        rw [take_snoc hpt, List.map_append]
        refine dpa_snoc (dpa_kt kt (dpa_ex e4 dw) ntw) ?_
        show Dp K _ _ (oD (srL nvL pt))
        rw [hq2]
        exact dp_kt kt du (sr_fine hq2 sl.le).2
      · rw [tl_mkS] at hq2
        have kt := Kt.mut (o := .lst (ws ++ [.non])) (e4 _ _ fd)
        refine ⟨ws, e4 _ _ fd, sz_lt (by omega), (Y.trans e4).mut nd, _, upd_same, ?_⟩
        rw [take_snoc hpt, List.map_append]
        refine dpa_snoc (dpa_kt kt (dpa_ex e4 dw) ntw) ?_
        show Dp K _ _ (oD (srL nvL pt))
        rw [hq2]
        exact .non
    rintro d hh nd ⟨Y, ws, fd, dw⟩
    rw [slV_len, List.take_length] at dw
    have nd1 : H1 d = none := ex_none (e2.trans e3) nd
    have X : Ex H1 hh := e2.trans (e3.trans Y)
  case' refine_2 =>
    have hi : inn = [] := by
      cases z : decide (inn = []) with
      | true => exact of_decide_eq_true z
      | false => exact absurd (by first | exact decide_eq_true (fun w => of_decide_eq_false z (eqs.mp w)) | (rw [decide_eq_false (fun w => of_decide_eq_false z (eqs.mp w))]; rfl)) y
    have nd1 : H1 d0 = none := n2
    have X : Ex H1 H2 := e2
    have fd := f2
    have dw : DpAll K H2 [] ((ptsL inn).map fun a => oD (srL nvL a)) := by rw [hi]; exact .nil
    generalize d0 = d, H2 = hh at nd1 X fd dw ⊢
  all_goals
    walk_at "r"
    have fi : ∀ a ∈ ptsL inn, ∀ d, srL nvL a = some d → Fine 2 d ∧ PyData.eqv d .none = false := fun a ma d hd => by
      refine ⟨(sr_fine hd (tp a ma).le).1, ?_⟩
      obtain ⟨ds, rfl⟩ := sr_tup hd
      rfl
    refine a_nIn (SqL.of fd) dw fi (by decide) (by omega) ?_
    walk_at "r"
    cases ho : oAll (srL nvL) (ptsL inn) with
    | none =>
      rw [ho] at eh
      walk_at "r"
      exact qn eh hh (e1.trans X)
    | some m =>
      rw [ho] at eh
      rw [oAll_map ho] at dw
      refine ite2 (fun z => absurd z (by intro w; cases w)) (fun _ => ?_)
      walk_at "r"
      refine ⟨rfl, ?_⟩
      walk_at "r"
      refine a_idx hS hp0 ?_
      walk_at "r"
      refine a_cutS hl c3 ?_
      walk_at "r"
      refine new_tup (xs := [.str "call", .str (mkS a), .ref d]) (by simp) fun p4 H4 n4 e4 f4 => ?_
      have E14 := e1.trans (X.trans e4)
      refine qy _ eh p4 H4 E14 fun M mu => ?_
      have nm : ntA m = true := nt_all fun b hb => by
        obtain ⟨a, ma, ha⟩ := oAll_src ho b hb
        exact (sr_fine ha (tp a ma).le).2
      exact .tup (SqT.of (dl_at ((mu.ex E14).tup f4) f4)) (.cons (.str _) (.cons (.str _) (.cons (.lst (SqL.of (dl_at (mu.nin (ex_none e1 nd1)) (e4 _ _ fd))) ((mu.ex E14).dpa (dpa_ex e4 dw) nm)) .nil)))
theorem ok__law_statement_of (T : Tx K mg) : FnOk P w K mg base CX0 5 T.a__law_statement_of T.e__law_statement_of p__law_statement_of (pSl K (stL nvL)) := by
  refine T.d__law_statement_of.F.ok sc__law_statement_of (fun vs H Q E h => ?_) (fun cdv A outer s H vs Q E hr h => ?_)
  · obtain ⟨x, rfl, _⟩ := h
    rfl
  obtain ⟨x, rfl, tk, qy, qn⟩ := h
  refine ⟨_, (pss_cons (ps_if (pt_cmpR op_eq (pe_slice sl_str (pv 0) po_none (po_some pe_int)) pe_str (nomark _)) (pss_one (ps_ret (pe_call (ok__law_let T) (hr.mono (by omega)) (by rfl) T.d__law_let.m T.d__law_let.F.kp T.d__law_let.b .nil pass0 (pa_cons (pe_slice sl_str (pv 0) (po_some pe_int) po_none) pa_nil)))) pss_nil)
    (pss_cons (ps_if (pt_cmpR op_eq (pe_slice sl_str (pv 0) po_none (po_some pe_int)) pe_str (nomark _)) (pss_one (ps_ret (pe_call (ok__law_put T) (hr.mono (by omega)) (by rfl) T.d__law_put.m T.d__law_put.F.kp T.d__law_put.b .nil pass0 (pa_cons (pe_slice sl_str (pv 0) (po_some pe_int) po_none) pa_nil)))) pss_nil)
    (pss_cons (ps_if (pt_cmpR op_eq (pe_slice sl_str (pv 0) po_none (po_some pe_int)) pe_str (nomark _)) (pss_one (ps_ret (pe_call (ok__law_call T) (hr.mono (by omega)) (by rfl) T.d__law_call.m T.d__law_call.F.kp T.d__law_call.b .nil pass0 (pa_cons (pe_slice sl_str (pv 0) (po_some pe_int) po_none) pa_nil)))) pss_nil)
    (pss_one (ps_ret pe_non))))), ?_⟩
  have hl := tk.le
  have es : stL nvL (tl x) = if (tl x).take 4 = tl "let " then ltL nvL ((tl x).drop 4) else if (tl x).take 4 = tl "put " then ptL nvL ((tl x).drop 4) else if (tl x).take 5 = tl "call " then caL nvL ((tl x).drop 5) else none := rfl
  have eqs : ∀ (l : Ln) (s : Str), mkS l = s ↔ l = tl s := fun l s => ⟨fun z => by rw [← z, tl_mkS], fun z => by rw [z, mkS_tl]⟩
  have t4 := tk.sub (List.drop_sublist 4 (tl x))
  have t5 := tk.sub (List.drop_sublist 5 (tl x))
  walk_at "r"
  refine a_cutS hl (cut_to x 4) ?_
  walk_at "r"
  refine ite2 (fun y => ?_) (fun y => ?_)
  · have y1 := (eqs _ _).mp (of_decide_eq_true y)
    rw [if_pos y1] at es
    walk_at "r"
    refine a_cutS hl (cut_from x 4) ?_
    walk_at "r"
    exact ⟨mkS ((tl x).drop 4), rfl, by rw [tl_mkS]; exact t4, fun d hd p2 H2 e2 dd => qy d (by rw [es]; rw [tl_mkS] at hd; exact hd) p2 H2 e2 dd, fun hd H2 e2 => qn (by rw [es]; rw [tl_mkS] at hd; exact hd) H2 e2⟩
  have y1 : ¬ (tl x).take 4 = tl "let " := fun z => y (decide_eq_true ((eqs _ _).mpr z))
  rw [if_neg y1] at es
  walk_at "r"
  refine a_cutS hl (cut_to x 4) ?_
  walk_at "r"
  refine ite2 (fun y => ?_) (fun y => ?_)
  · have y1 := (eqs _ _).mp (of_decide_eq_true y)
    rw [if_pos y1] at es
    walk_at "r"
    refine a_cutS hl (cut_from x 4) ?_
    walk_at "r"
    exact ⟨mkS ((tl x).drop 4), rfl, by rw [tl_mkS]; exact t4, fun d hd p2 H2 e2 dd => qy d (by rw [es]; rw [tl_mkS] at hd; exact hd) p2 H2 e2 dd, fun hd H2 e2 => qn (by rw [es]; rw [tl_mkS] at hd; exact hd) H2 e2⟩
  have y1 : ¬ (tl x).take 4 = tl "put " := fun z => y (decide_eq_true ((eqs _ _).mpr z))
  rw [if_neg y1] at es
  walk_at "r"
  refine a_cutS hl (cut_to x 5) ?_
  walk_at "r"
  refine ite2 (fun y => ?_) (fun y => ?_)
  · have y1 := (eqs _ _).mp (of_decide_eq_true y)
    rw [if_pos y1] at es
    walk_at "r"
    refine a_cutS hl (cut_from x 5) ?_
    walk_at "r"
    exact ⟨mkS ((tl x).drop 5), rfl, by rw [tl_mkS]; exact t5, fun d hd p2 H2 e2 dd => qy d (by rw [es]; rw [tl_mkS] at hd; exact hd) p2 H2 e2 dd, fun hd H2 e2 => qn (by rw [es]; rw [tl_mkS] at hd; exact hd) H2 e2⟩
  have y1 : ¬ (tl x).take 5 = tl "call " := fun z => y (decide_eq_true ((eqs _ _).mpr z))
  rw [if_neg y1] at es
  walk_at "r"
  exact qn es H (Ex.refl _)
end
section
variable {P : Program} {w : World} {K : PySem.W.Frag} {mg : Str → Option Value} {base : Heap}
open TL
theorem par_acc {S : Ln} : ∀ (l acc : Ln), par S acc l = (par S [] l).map fun ab => (acc ++ ab.1, ab.2)
  | [], acc => rfl
  | c :: r, acc => by
    cases hp : par S [] (c :: r) with
    | none =>
      cases hq : pre S (c :: r) with
      | true => rw [par_hit hq] at hp; cases hp
      | false =>
        rw [par_miss hq, par_acc r] at hp
        rw [par_miss hq, par_acc r]
        cases hr : par S [] r with
        | none => rfl
        | some x => rw [hr] at hp; cases hp
    | some ab =>
      cases hq : pre S (c :: r) with
      | true =>
        rw [par_hit hq] at hp ⊢
        cases hp
        simp
      | false =>
        rw [par_miss hq, par_acc r] at hp
        rw [par_miss hq, par_acc r]
        cases hr : par S [] r with
        | none => rw [hr] at hp; cases hp
        | some x =>
          rw [hr] at hp
          cases hp
          simp
theorem p40_def {l : Ln} (h : l.take 4 = tl "def ") : par [40] [] l = (par [40] [] (l.drop 4)).map fun ab => (tl "def " ++ ab.1, ab.2) := by
  have e : l = tl "def " ++ l.drop 4 := by rw [← h, List.take_append_drop]
  have d : tl "def " = [100, 101, 102, 32] := by decide +kernel
  have key : ∀ r : Ln, par [40] [] (100 :: 101 :: 102 :: 32 :: r) = (par [40] [] r).map fun ab => ([100, 101, 102, 32] ++ ab.1, ab.2) := fun r => by
    rw [par_miss (pre_of_head _ _ (by decide)), par_miss (pre_of_head _ _ (by decide)), par_miss (pre_of_head _ _ (by decide)), par_miss (pre_of_head _ _ (by decide)), par_acc]
    rfl
  rw [d] at e ⊢
  generalize l.drop 4 = r at e ⊢
  rw [e]
  exact key r
theorem oAll_snoc {α β : Type} {f : α → Option β} {a : α} {b : β} : ∀ {l : List α} {m : List β}, oAll f l = some m → f a = some b → oAll f (l ++ [a]) = some (m ++ [b])
  | [], m, h, hb => by
    cases h
    show (match f a, oAll f [] with | some b, some m => some (b :: m) | _, _ => none) = _
    rw [hb]
    rfl
  | c :: l, m, h, hb => by
    unfold oAll at h
    cases hf : f c with
    | none => rw [hf] at h; cases h
    | some d =>
      cases hl : oAll f l with
      | none => rw [hf, hl] at h; cases h
      | some n =>
        rw [hf, hl] at h
        cases h
        show (match f c, oAll f (l ++ [a]) with | some b, some m => some (b :: m) | _, _ => none) = _
        rw [hf, oAll_snoc hl hb]
        rfl
theorem oAll_none {α β : Type} {f : α → Option β} {a : α} (ha : f a = none) : ∀ {l : List α}, a ∈ l → oAll f l = none
  | [], h => absurd h (by simp)
  | c :: l, h => by
    unfold oAll
    rcases List.mem_cons.mp h with rfl | h
    · rw [ha]
    · rw [oAll_none ha h]
      cases f c <;> rfl
def pLf (K : PySem.W.Frag) : Sp := fun vs H Q _ => ∃ x, vs = [.str x] ∧ Tkl (tl x) ∧
  (∀ q, hdL nvL (tl x) = some q → ∀ p l e ws H1, Ex H H1 → H p = none → H l = none → H e = none → p ≠ l → p ≠ e → l ≠ e → H1 p = some (.lst [.str q.1, .ref l, .ref e]) → H1 l = some (.lst ws) → H1 e = some (.lst []) → DpAll K H1 ws q.2 → Q (.ref p) H1) ∧
  (hdL nvL (tl x) = none → ∀ H1, Ex H H1 → Q .non H1)
theorem ok__law_def (T : Tx K mg) : FnOk P w K mg base CX0 3 T.a__law_def T.e__law_def p__law_def (pLf K) := by
  refine T.d__law_def.F.ok sc__law_def (fun vs H Q E h => ?_) (fun cdv A outer s H vs Q E hr h => ?_)
  · obtain ⟨x, rfl, _⟩ := h
    rfl
  obtain ⟨x, rfl, tk, qy, qn⟩ := h
  have hu := hu_of hr
  refine ⟨_, (pss_cons (ps_if (PW.pt (pw_or (pt_cmpR op_ne (pe_slice sl_str (pv 0) po_none (po_some pe_int)) pe_str (nomark _)) (pw_or (pt_cmpR k_ninS pe_str (pv 0) (by rfl)) (pw_or (pt_cmpR op_ne (pe_slice sl_str (pv 0) (po_some (pe_un un_neg pe_int)) po_none) pe_str (nomark _)) (pw_or1 (pt_not (pt_val (pe_call (ok__law_is_name T) (hr.mono (by omega)) (by rfl) T.d__law_is_name.m T.d__law_is_name.F.kp T.d__law_is_name.b .nil pass0 (pa_cons (pe_slice sl_str (pv 0) (po_some pe_int) (po_some (pe_bmS PySem.F.plainAttrs_str PySem.F.slot_str_index PySem.F.type_str_index (mtIxF rfl) (pv 0) (pa_cons pe_str pa_nil)))) pa_nil))))))))) (pss_one (ps_ret pe_non)) pss_nil)
    (pss_cons (ps_set (i := 1) sc__law_def.nd rfl (.inl rfl) (pe_slice sl_str (pv 0) (po_some (pe_op op_add (pe_bmS PySem.F.plainAttrs_str PySem.F.slot_str_index PySem.F.type_str_index (mtIxF rfl) (pv 0) (pa_cons pe_str pa_nil)) pe_int)) (po_some (pe_un un_neg pe_int))))
    (pss_cons (ps_set (i := 2) sc__law_def.nd rfl (.inl rfl) (pe_lst pa_nil))
    (pss_cons (ps_if (pt_cmpR op_ne (pv 1) pe_str (nomark _)) (pss_one (ps_for PassesOwn.never rfl (plK K (pe_m1 PySem.F.slot_str_split PySem.F.type_str_split mtSpl (pv 1) pe_str)) (pg_name (i := 3) sc__law_def.nd rfl (.inl rfl)) (pss_cons (ps_set (i := 4) sc__law_def.nd rfl (.inl rfl) (pe_m1 PySem.F.slot_str_split PySem.F.type_str_split mtSpl (pv 3) pe_str))
    (pss_cons (ps_if (PW.pt (pw_or (pt_cmpR op_ne (pe_callB (lenK K) (by rfl) T.b_len PySem.boot_len (pa_cons (pv 4) pa_nil)) pe_int (nomark _)) (pw_or (pt_not (pt_val (pe_call (ok__law_is_name T) (hr.mono (by omega)) (by rfl) T.d__law_is_name.m T.d__law_is_name.F.kp T.d__law_is_name.b .nil pass0 (pa_cons (pe_ix (ixL K) (pv 4) pe_int (fun _ _ => rfl)) pa_nil)))) (pw_or1 (pt_cmpR k_isN (pe_call (ok__law_type T) (hr.mono (by omega)) (by rfl) T.d__law_type.m T.d__law_type.F.kp T.d__law_type.b .nil pass0 (pa_cons (pe_ix (ixL K) (pv 4) pe_int (fun _ _ => rfl)) pa_nil)) pe_non (nomark _)))))) (pss_one (ps_ret pe_non)) pss_nil)
    (pss_one (ps_expr (pe_bm PySem.F.plainAttrs_list PySem.F.slot_list_append PySem.F.type_list_append mt_append (pv 2) (pa_cons (pe_tup (pa_cons (pe_ix (ixL K) (pv 4) pe_int (fun _ _ => rfl)) (pa_cons (pe_call (ok__law_type T) (hr.mono (by omega)) (by rfl) T.d__law_type.m T.d__law_type.F.kp T.d__law_type.b .nil pass0 (pa_cons (pe_ix (ixL K) (pv 4) pe_int (fun _ _ => rfl)) pa_nil)) pa_nil))) pa_nil)))))))) pss_nil)
    (pss_one (ps_ret (pe_lst (pa_cons (pe_slice sl_str (pv 0) (po_some pe_int) (po_some (pe_bmS PySem.F.plainAttrs_str PySem.F.slot_str_index PySem.F.type_str_index (mtIxF rfl) (pv 0) (pa_cons pe_str pa_nil)))) (pa_cons (pv 2) (pa_cons (pe_lst pa_nil) pa_nil)))))))))), ?_⟩
  have hl := tk.le
  have sS : tl "(" = [40] := by decide +kernel
  have s41 : tl ")" = [41] := by decide +kernel
  have hS : tl "(" ≠ [] := by rw [sS]; simp
  have eqm : ∀ (l : Ln) (s : Str), mkS l = s ↔ l = tl s := fun l s => ⟨fun z => by rw [← z, tl_mkS], fun z => by rw [z, mkS_tl]⟩
  have eh : hdL nvL (tl x) = if (tl x).take 4 = tl "def " then (clL ((tl x).drop 4)).bind fun q => (oAll (dcL nvL) q.2).map fun ps => (q.1, ps.map dcD) else none := rfl
  walk_at "r"
  refine a_cutS hl (cut_to x 4) ?_
  walk_at "r"
  refine ite2 (fun y => ?_) (fun y => ?_)
  · have y1 : ¬ (tl x).take 4 = tl "def " := fun z => by
      rw [decide_eq_true ((eqm _ _).mpr z)] at y
      cases y
    rw [if_neg y1] at eh
    walk_at "r"
    exact qn eh H (Ex.refl _)
  have y1 : (tl x).take 4 = tl "def " := by
    cases z : decide ((tl x).take 4 = tl "def ") with
    | true => exact of_decide_eq_true z
    | false => exact absurd (by first | exact decide_eq_true (fun w => of_decide_eq_false z ((eqm _ _).mp w)) | (rw [decide_eq_false (fun w => of_decide_eq_false z ((eqm _ _).mp w))]; rfl)) y
  rw [if_pos y1] at eh
  have pd := p40_def y1
  walk_at "r"
  refine a_hasT hS ?_
  cases hp0 : par (tl "(") [] (tl x) with
  | none =>
    have hp := hp0
    rw [sS, pd] at hp
    have hp : par [40] [] ((tl x).drop 4) = none := by
      cases z : par [40] [] ((tl x).drop 4) with
      | none => rfl
      | some q => rw [z] at hp; cases hp
    rw [cl_no hp] at eh
    walk_at "r"
    exact qn eh H (Ex.refl _)
  | some ab =>
  obtain ⟨a', b⟩ := ab
  have hp := hp0
  rw [sS] at hp
  obtain ⟨a, ha, hp4⟩ : ∃ a, a' = tl "def " ++ a ∧ par [40] [] ((tl x).drop 4) = some (a, b) := by
    rw [pd] at hp
    cases z : par [40] [] ((tl x).drop 4) with
    | none => rw [z] at hp; cases hp
    | some q =>
      rw [z] at hp
      cases hp
      exact ⟨q.1, rfl, rfl⟩
  rw [cl_eq hp4] at eh
  obtain ⟨sa, sb⟩ := par_sub hp4
  have ta := (tk.sub (List.drop_sublist 4 (tl x))).sub sa
  have tb := (tk.sub (List.drop_sublist 4 (tl x))).sub sb
  refine ⟨false, rfl, ?_⟩
  refine ite2 (fun z => absurd z (by decide)) (fun _ => ?_)
  walk_at "r"
  refine a_cutS hl (cut_last x) ?_
  walk_at "r"
  have el : (decide (mkS ((tl x).drop ((tl x).length - 1)) = (")" : Str))) = decide (b.getLast? = some 41) := by
    refine decide_eq_decide.mpr ?_
    rw [← p40_last hp, ← last_one]
    exact ⟨fun z => by
      have := congrArg tl z
      rw [tl_mkS, s41] at this
      exact this, fun z => by rw [z]; exact ext_tl s41.symm⟩
  rw [el]
  by_cases c41 : b.getLast? = some 41
  rotate_left
  · rw [decide_eq_false c41]
    rw [decide_eq_false c41, Bool.and_false, if_neg (by simp)] at eh
    walk_at "r"
    exact qn eh H (Ex.refl _)
  rw [decide_eq_true c41]
  rw [decide_eq_true c41, Bool.and_true] at eh
  have l4 : (tl "def ").length = 4 := by decide +kernel
  have c3 : cutS x (some 4) (some ((a'.length : Nat) : Int)) = mkS a := by
    rw [show (4 : Int) = ((4 : Nat) : Int) from rfl, cut_mid, par_take hp, ha, List.drop_left' l4]
  refine ite2 (fun z => absurd z (by decide)) (fun _ => ?_)
  walk_at "r"
  refine ⟨rfl, ?_⟩
  walk_at "r"
  refine a_idx hS hp0 ?_
  walk_at "r"
  refine a_cutS hl c3 ?_
  walk_at "r"
  refine ⟨mkS a, rfl, by rw [tl_mkS]; exact ta.le, fun H1 e1 => ?_⟩
  rw [tl_mkS]
  walk_at "r"
  by_cases hn : nmL a = true
  rotate_left
  · rw [if_neg hn] at eh
    rw [bne hn]
    walk_at "r"
    exact qn eh H1 e1
  rw [if_pos hn] at eh
  have eh : hdL nvL (tl x) = (oAll (dcL nvL) (ptsL b.dropLast)).map fun ps => (mkS a, ps.map dcD) := eh
  rw [hn]
  walk_at "r"
  refine ⟨rfl, ?_⟩
  walk_at "r"
  refine a_idx hS hp0 ?_
  walk_at "r"
  have c4 : cutS x (some ((a'.length : Int) + 1)) (some (-1)) = mkS b.dropLast := by
    rw [show ((a'.length : Int) + 1) = ((a'.length + 1 : Nat) : Int) from by omega, cut_but, p40_in hp c41]
  refine a_cutS hl c4 ?_
  walk_at "r"
  refine new_lst (xs := []) (by simp) fun d H2 n2 e2 f2 => ?_
  walk_at "r"
  have nd : H d = none := ex_none e1 n2
  have ti := tb.sub (List.dropLast_sublist b)
  have tp := tok_pts ti
  have pc := pts_cnt b.dropLast
  generalize hin : b.dropLast = inn at *
  have eqs : mkS inn = ("" : Str) ↔ inn = [] := ⟨fun z => by rw [← tl_mkS inn, z]; rfl, fun z => by rw [z]; rfl⟩
  have tl_ := ti.le
  have X2 := e1.trans e2
  have fin : ∀ (m : List (Str × PyData)), oAll (dcL nvL) (ptsL inn) = some m → hdL nvL (tl x) = some (mkS a, m.map dcD) := fun m hm => by
    rw [eh, hm]
    rfl
  refine ite2 (fun y => ?_) (fun y => ?_)
  case' refine_1 =>
    have hi : inn ≠ [] := fun z => by
      rw [decide_eq_true (eqs.mpr z)] at y
      cases y
    have hpt : ptsL inn = spl (tl ", ") 0 [] inn := if_neg hi
    walk_at "r"
    refine ⟨⟨_, rfl⟩, ?_⟩
    walk_at "r"
    refine a_spl (by rw [sCom]; simp) (by decide +kernel) (by rw [tl_mkS]; omega) fun l H3 n3 e3 f3 => ?_
    rw [tl_mkS, ← hpt] at f3
    have f3 : H3 l = some (.lst (slV (ptsL inn))) := by
      rw [f3]
      unfold slV
      rw [List.map_map]
      rfl
    refine ⟨l, rfl, ⟨_, SqL.of f3⟩, ?_⟩
    have ld : l ≠ d := (ne_old f2 n3).symm
    refine lp_list (xs := slV (ptsL inn)) (fun k σ h => (∃ x3 x4, σ = [some (.str x), some (.str (mkS inn)), some (.ref d), x3, x4]) ∧ Ex H h ∧ h l = some (.lst (slV (ptsL inn))) ∧ ∃ m ws, oAll (dcL nvL) ((ptsL inn).take k) = some m ∧ h d = some (.lst ws) ∧ DpAll K h ws (m.map dcD)) ⟨⟨_, _, rfl⟩, X2.trans e3, f3, [], [], rfl, e3 _ _ f2, .nil⟩ (fun k σ h _ g => SqL.of g.2.2.1) ?_ ?_
    · rintro k u σ h hk ⟨⟨x3, x4, rfl⟩, Xh, fl, m, ws, om, fd, dw⟩
      obtain ⟨pt, hpt', rfl⟩ := slV_at hk
      have jl := at_lt hpt'
      have mp := List.mem_of_getElem? hpt'
      have tpt := tp pt mp
      have lw := dpa_len dw
      have lm := oAll_len om
      rw [List.length_map] at lw
      rw [List.length_take] at lm
      have bad : dcL nvL pt = none → hdL nvL (tl x) = none := fun z => by
        rw [eh, oAll_none z mp]
        rfl
      have hds := dc_split (nv := nvL) pt
      have sC : tl " : " ≠ [] := by rw [sCol]; simp
      have ssub := spl_sub sC pt.length pt [] (Nat.le_refl _)
      have scnt := spl_cnt sC pt.length pt [] (Nat.le_refl _)
      walk_at "r"
      refine ⟨⟨_, rfl⟩, ?_⟩
      walk_at "r"
      refine a_spl sC (by decide +kernel) (by rw [tl_mkS]; exact tpt.le) fun l2 H4 n4 e4 f4 => ?_
      rw [tl_mkS] at f4
      have f4 : H4 l2 = some (.lst (slV (spl (tl " : ") 0 [] pt))) := by
        rw [f4]
        unfold slV
        rw [List.map_map]
        rfl
      have tple := tpt.le
      generalize hsp : spl (tl " : ") 0 [] pt = sp at f4 hds ssub scnt
      walk_at "r"
      refine a_lenL (SqL.of f4) ?_
      rw [slV_len]
      walk_at "r"
      by_cases h2 : sp.length = 2
      rotate_left
      · have hd0 : dcL nvL pt = none := by
          rw [hds]
          match sp, h2 with
          | [], _ => rfl
          | [_], _ => rfl
          | [_, _], h => exact absurd rfl h
          | _ :: _ :: _ :: _, _ => rfl
        refine ite2 (fun _ => ?_) (fun z => absurd (by rw [decide_eq_false (fun w : (sp.length : Int) = 2 => h2 (by omega))]; rfl) z)
        walk_at "r"
        exact qn (bad hd0) H4 (Xh.trans e4)
      obtain ⟨pa, pb, rfl⟩ : ∃ a b, sp = [a, b] := by
        match sp, h2 with
        | [a, b], _ => exact ⟨a, b, rfl⟩
      have hds : dcL nvL pt = if nmL pa = true then (kdL nvL pb).map fun k => (mkS pa, k) else none := hds
      have sA : pa.Sublist pt := by
        have := ssub pa (by simp)
        simpa using this
      have sB : pb.Sublist pt := by
        have := ssub pb (by simp)
        simpa using this
      have tA := tpt.sub sA
      have tB := tpt.sub sB
      refine ite2 (fun z => absurd z (by intro w; cases w)) (fun _ => ?_)
      have i4 : ∀ {G : Hp}, Ex H4 G → SqL K G l2 [.str (mkS pa), .str (mkS pb)] := fun e => SqL.of (e _ _ f4)
      walk_at "r"
      refine a_ixL (v := .str (mkS pa)) (i4 (Ex.refl _)) (atI_nat (j := 0) rfl) ?_
      walk_at "r"
      refine ⟨mkS pa, rfl, by rw [tl_mkS]; exact tA.le, fun H5 e5 => ?_⟩
      rw [tl_mkS]
      walk_at "r"
      by_cases na : nmL pa = true
      rotate_left
      · rw [if_neg na] at hds
        rw [bne na]
        walk_at "r"
        exact qn (bad hds) H5 (Xh.trans (e4.trans e5))
      rw [if_pos na] at hds
      rw [na]
      walk_at "r"
      refine a_ixL (v := .str (mkS pb)) (i4 e5) (atI_nat (j := 1) rfl) ?_
      walk_at "r"
      refine ⟨mkS pb, rfl, by rw [tl_mkS]; exact tB, fun k' hk' v H6 e6 nv dv => ?_, fun hk' H6 e6 => ?_⟩
      · rw [tl_mkS] at hk'
        rw [hk'] at hds
        have hds : dcL nvL pt = some (mkS pa, k') := hds
        walk_at "r"
        refine a_isNv nv ?_
        walk_at "r"
        have E46 := e4.trans (e5.trans e6)
        refine ⟨a_ty (E46 _ _ fd), ?_⟩
        walk_at "r"
        refine a_ixL (v := .str (mkS pa)) (i4 (e5.trans e6)) (atI_nat (j := 0) rfl) ?_
        walk_at "r"
        refine a_ixL (v := .str (mkS pb)) (i4 (e5.trans e6)) (atI_nat (j := 1) rfl) ?_
        walk_at "r"
        refine ⟨mkS pb, rfl, by rw [tl_mkS]; exact tB, fun k2 hk2 v2 H7 e7 nv2 dv2 => ?_, fun hk2 => ?_⟩
        · rw [tl_mkS, hk'] at hk2
          cases hk2
          walk_at "r"
          refine new_tup (xs := [.str (mkS pa), v2]) (by simp) fun p8 H8 n8 e8 f8 => ?_
          walk_at "r"
          have E48 := E46.trans (e7.trans e8)
          refine a_appK (E48 _ _ fd) (by omega) fun H9 k9 f9 => ?_
          have kt : Kt H8 H9 := fun b o hb nb => k9.at (fun z => nb ws (by
            rw [List.mem_singleton.mp z] at hb
            exact (Option.some.inj (hb.symm.trans (E48 _ _ fd))))) hb
          have nt : ntA (m.map dcD) = true := nt_all fun q hq => by
            obtain ⟨z, mz, rfl⟩ := List.mem_map.mp hq
            obtain ⟨w, mw, ew⟩ := oAll_src om z mz
            exact (dc_fine ew (tp w (List.mem_of_mem_take mw)).le).2.1
          have X9 : Ex H H9 := fun b o hb => k9.at (by
            rw [List.mem_singleton]
            exact ne_of_none hb nd) ((Xh.trans E48) b o hb)
          refine ⟨⟨_, _, rfl⟩, X9, k9.at (by simpa using ld) (E48 _ _ fl), m ++ [(mkS pa, k')], _, ?_, f9, ?_⟩
          · rw [take_snoc hpt']
            exact oAll_snoc om hds
          · rw [List.map_append]
            refine dpa_snoc (dpa_kt kt (dpa_ex E48 dw) nt) ?_
            exact dp_kt kt (.tup (SqT.of f8) (.cons (.str _) (.cons (dp_ex e8 dv2) .nil))) (dc_fine hds tpt.le).2.1
        · rw [tl_mkS, hk'] at hk2
          cases hk2
      · rw [tl_mkS] at hk'
        rw [hk'] at hds
        walk_at "r"
        exact qn (bad hds) H6 (Xh.trans (e4.trans (e5.trans e6)))
    rintro σ hh ⟨⟨x3, x4, rfl⟩, X, fl, m, ws, om, fd, dw⟩
    rw [slV_len, List.take_length] at om
  case' refine_2 =>
    have hi : inn = [] := by
      cases z : decide (inn = []) with
      | true => exact of_decide_eq_true z
      | false => exact absurd (by first | exact decide_eq_true (fun w => of_decide_eq_false z (eqs.mp w)) | (rw [decide_eq_false (fun w => of_decide_eq_false z (eqs.mp w))]; rfl)) y
    have X := X2
    have fd := f2
    obtain ⟨m, om, dw⟩ : ∃ m, oAll (dcL nvL) (ptsL inn) = some m ∧ DpAll K H2 [] (m.map dcD) := ⟨[], by rw [hi]; rfl, .nil⟩
    generalize H2 = hh at X fd dw ⊢
  all_goals
    walk_at "r"
    refine ⟨rfl, ?_⟩
    walk_at "r"
    refine a_idx hS hp0 ?_
    walk_at "r"
    refine a_cutS hl c3 ?_
    walk_at "r"
    refine new_lst (xs := []) (by simp) fun e4 H4 n4 e4' f4 => ?_
    walk_at "r"
    refine new_lst (xs := [.str (mkS a), .ref d, .ref e4]) (by simp) fun p5 H5 n5 e5 f5 => ?_
    exact qy _ (fin m om) p5 d e4 _ H5 (X.trans (e4'.trans e5)) (ex_none (X.trans e4') n5) nd (ex_none X n4) (ne_old (e4' _ _ fd) n5).symm (ne_old f4 n5).symm (ne_old fd n4) f5 (e5 _ _ (e4' _ _ fd)) (e5 _ _ f4) (dpa_ex (e4'.trans e5) dw)
end
section
variable {P : Program} {w : World} {K : PySem.W.Frag} {mg : Str → Option Value} {base : Heap}
open TL
def ldM (s : Rs) (z pf ps pe : Addr) : List Addr := match s.hd with
  | none => [z, pf, ps]
  | some _ => [z, pf, ps, pe]
structure LdH (K : PySem.W.Frag) (B : Hp) (s : Rs) (G H : Hp) (z pf ps pe : Addr) (wf : List V) (q : Str × List PyData) : Prop where
  ex : ∃ wg wb p l us, wf = wg ++ [.ref p] ∧ DpAll K G wg (s.fs.map fdat) ∧ B pe = none ∧ pe ≠ z ∧ pe ≠ pf ∧ pe ≠ ps ∧ H pe = some (.lst wb) ∧ DpAll K G wb s.bd ∧ G p = some (.lst [.str q.1, .ref l, .ref pe]) ∧ G l = some (.lst us) ∧ DpAll K G us q.2
structure LdX (K : PySem.W.Frag) (B : Hp) (z : Addr) (k : Nat) (s : Rs) (H : Hp) (pf ps pe : Addr) (wf ws : List V) : Prop where
  nz : B z = none
  nf : B pf = none
  ns : B ps = none
  d1 : z ≠ pf
  d2 : z ≠ ps
  d3 : pf ≠ ps
  eb : Ex B H
  hz : H z = some (.lst [.ref pf, .ref ps, .bl s.hd.isSome])
  hf : H pf = some (.lst wf)
  hs : H ps = some (.lst ws)
  sa : DpAll K (dl (ldM s z pf ps pe) H) ws s.ss
  fa : s.hd = none → DpAll K (dl (ldM s z pf ps pe) H) wf (s.fs.map fdat)
  hh : ∀ q, s.hd = some q → LdH K B s (dl (ldM s z pf ps pe) H) H z pf ps pe wf q
  sm : smAll s.ss = true
  sf : smAll (s.fs.map fdat) = true
  sb : smAll s.bd = true
  sq : ∀ q, s.hd = some q → smD (.str q.1) = true ∧ smAll q.2 = true ∧ q.2.length ≤ 100000
  lf : s.fs.length ≤ k
  ls : s.ss.length ≤ k
  lb : s.bd.length ≤ k
structure Ld (K : PySem.W.Frag) (B : Hp) (z : Addr) (k : Nat) (s : Rs) (H : Hp) : Prop where
  ex : ∃ pf ps pe wf ws, LdX K B z k s H pf ps pe wf ws
section
variable {K : PySem.W.Frag} {z pf ps pe : Addr} {B H H1 : Hp} {k : Nat} {s : Rs} {wf ws : List V}
theorem LdX.mu (r : LdX K B z k s H pf ps pe wf ws) : Mu (ldM s z pf ps pe) H := fun x hx => by
  have bas : ∀ y ∈ [z, pf, ps], ∃ o, H y = some o ∧ isT o = false := fun y hy => by
    rcases List.mem_cons.mp hy with rfl | hy
    · exact ⟨_, r.hz, rfl⟩
    rcases List.mem_cons.mp hy with rfl | hy
    · exact ⟨_, r.hf, rfl⟩
    rw [List.mem_singleton.mp hy]
    exact ⟨_, r.hs, rfl⟩
  unfold ldM at hx
  cases hq : s.hd with
  | none =>
    rw [hq] at hx
    exact bas x hx
  | some q =>
    rw [hq] at hx
    have hx : x ∈ [z, pf, ps] ++ [pe] := hx
    rcases List.mem_append.mp hx with hx | hx
    · exact bas x hx
    · obtain ⟨wg, wb, p, l, us, _, _, _, _, _, _, h, _⟩ := (r.hh q hq).ex
      rw [List.mem_singleton.mp hx]
      exact ⟨_, h, rfl⟩
theorem LdX.isb {x : Addr} (r : LdX K B z k s H pf ps pe wf ws) (hx : x ∈ ldM s z pf ps pe) : B x = none := by
  unfold ldM at hx
  cases hq : s.hd with
  | none =>
    rw [hq] at hx
    rcases List.mem_cons.mp hx with rfl | hx
    · exact r.nz
    rcases List.mem_cons.mp hx with rfl | hx
    · exact r.nf
    rw [List.mem_singleton.mp hx]
    exact r.ns
  | some q =>
    rw [hq] at hx
    rcases List.mem_cons.mp hx with rfl | hx
    · exact r.nz
    rcases List.mem_cons.mp hx with rfl | hx
    · exact r.nf
    rcases List.mem_cons.mp hx with rfl | hx
    · exact r.ns
    obtain ⟨wg, wb, p, l, us, _, _, h, _⟩ := (r.hh q hq).ex
    rw [List.mem_singleton.mp hx]
    exact h
theorem LdX.up (r : LdX K B z k s H pf ps pe wf ws) (e : Ex H H1) : LdX K B z k s H1 pf ps pe wf ws := by
  have d := dl_ex (S := ldM s z pf ps pe) e
  refine ⟨r.nz, r.nf, r.ns, r.d1, r.d2, r.d3, r.eb.trans e, e _ _ r.hz, e _ _ r.hf, e _ _ r.hs, dpa_ex d r.sa, fun h => dpa_ex d (r.fa h), fun q hq => ?_, r.sm, r.sf, r.sb, r.sq, r.lf, r.ls, r.lb⟩
  obtain ⟨wg, wb, p, l, us, h1, h2, h3, h4, h5, h6, h7, h8, h9, h10, h11⟩ := (r.hh q hq).ex
  exact ⟨wg, wb, p, l, us, h1, dpa_ex d h2, h3, h4, h5, h6, e _ _ h7, dpa_ex d h8, d _ _ h9, d _ _ h10, dpa_ex d h11⟩
theorem Ld.up (r : Ld K B z k s H) (e : Ex H H1) : Ld K B z k s H1 := by
  obtain ⟨pf, ps, pe, wf, ws, x⟩ := r.ex
  exact ⟨pf, ps, pe, wf, ws, x.up e⟩
theorem Ld.eb (r : Ld K B z k s H) : Ex B H := by
  obtain ⟨pf, ps, pe, wf, ws, x⟩ := r.ex
  exact x.eb
theorem Ld.start (e : Ex B H) (nz : B z = none) (nf : B pf = none) (ns : B ps = none) (d1 : z ≠ pf) (d2 : z ≠ ps) (d3 : pf ≠ ps) (hz : H z = some (.lst [.ref pf, .ref ps, .bl false])) (hf : H pf = some (.lst [])) (hs : H ps = some (.lst [])) : Ld K B z 0 rs0 H :=
  ⟨pf, ps, pf, [], [], nz, nf, ns, d1, d2, d3, e, hz, hf, hs, .nil, fun _ => .nil, fun q hq => (by cases hq), rfl, rfl, rfl, fun q hq => (by cases hq), Nat.le_refl _, Nat.le_refl _, Nat.le_refl _⟩
end
def pTn (K : PySem.W.Frag) : Sp := fun vs H Q _ => ∃ B z k s x, vs = [.ref z, .str x] ∧ Tkl (tl x) ∧ Ld K B z k s H ∧ k < 90000 ∧
  (∀ s', stepL nvL s (tl x) = some s' → ∀ H1, Ld K B z (k + 1) s' H1 → Q (.bl true) H1) ∧ (stepL nvL s (tl x) = none → ∀ H1, Ex B H1 → Q (.bl false) H1)
theorem ok__law_taken (T : Tx K mg) : FnOk P w K mg base CX0 6 T.a__law_taken T.e__law_taken p__law_taken (pTn K) := by
  refine T.d__law_taken.F.ok sc__law_taken (fun vs H Q E h => ?_) (fun cdv A outer s H vs Q E hr h => ?_)
  · obtain ⟨B, z, k, s, x, rfl, _⟩ := h
    rfl
  obtain ⟨B, z, k, s, x, rfl, tk, ld, kz, qy, qn⟩ := h
  obtain ⟨pf, ps, pe, wf, ws, r⟩ := ld.ex
  have hl := tk.le
  have eqm : ∀ (l : Ln) (s : Str), mkS l = s ↔ l = tl s := fun l s => ⟨fun z => by rw [← z, tl_mkS], fun z => by rw [z, mkS_tl]⟩
  have mu := r.mu
  have sa := r.sa
  have lf := r.lf
  have ls := r.ls
  have lb := r.lb
  refine ⟨_, (pss_cons (ps_if (pt_val (pe_ix (ixL K) (pv 0) pe_int (fun _ _ => rfl))) (pss_cons (ps_if (pt_cmpR op_eq (pv 1) pe_str (nomark _)) (pss_cons (ps_asg pe_bl (pg_sub (pv 0) pe_int set_list))
    (pss_one (ps_ret pe_bl))) pss_nil)
    (pss_cons (ps_set (i := 2) sc__law_taken.nd rfl (.inl rfl) pe_non)
    (pss_cons (ps_if (pt_cmpR op_eq (pe_slice sl_str (pv 1) po_none (po_some pe_int)) pe_str (nomark _)) (pss_one (ps_set (i := 2) sc__law_taken.nd rfl (.inl rfl) (pe_call (ok__law_statement_of T) (hr.mono (by omega)) (by rfl) T.d__law_statement_of.m T.d__law_statement_of.F.kp T.d__law_statement_of.b .nil pass0 (pa_cons (pe_slice sl_str (pv 1) (po_some pe_int) po_none) pa_nil)))) pss_nil)
    (pss_cons (ps_if (pt_cmpR k_notN (pv 2) pe_non (nomark _)) (pss_one (ps_expr (pe_bm PySem.F.plainAttrs_list PySem.F.slot_list_append PySem.F.type_list_append mt_append (pe_ix (ixL K) (pe_ix (ixL K) (pe_ix (ixL K) (pv 0) pe_int (fun _ _ => rfl)) (pe_un un_neg pe_int) (fun _ _ => rfl)) pe_int (fun _ _ => rfl)) (pa_cons (pv 2) pa_nil)))) pss_nil)
    (pss_one (ps_ret (pe_cmpR k_notN (pv 2) pe_non (nomark _)))))))) pss_nil)
    (pss_cons (ps_set (i := 3) sc__law_taken.nd rfl (.inl rfl) (pe_call (ok__law_def T) (hr.mono (by omega)) (by rfl) T.d__law_def.m T.d__law_def.F.kp T.d__law_def.b .nil pass0 (pa_cons (pv 1) pa_nil)))
    (pss_cons (ps_if (PW.pt (pw_and (pt_cmpR k_notN (pv 3) pe_non (nomark _)) (pw_and1 (pt_cmpR op_eq (pe_callB (lenK K) (by rfl) T.b_len PySem.boot_len (pa_cons (pe_ix (ixL K) (pv 0) pe_int (fun _ _ => rfl)) pa_nil)) pe_int (nomark _))))) (pss_cons (ps_expr (pe_bm PySem.F.plainAttrs_list PySem.F.slot_list_append PySem.F.type_list_append mt_append (pe_ix (ixL K) (pv 0) pe_int (fun _ _ => rfl)) (pa_cons (pv 3) pa_nil)))
    (pss_cons (ps_asg pe_bl (pg_sub (pv 0) pe_int set_list))
    (pss_one (ps_ret pe_bl)))) pss_nil)
    (pss_cons (ps_set (i := 2) sc__law_taken.nd rfl (.inl rfl) (pe_call (ok__law_statement_of T) (hr.mono (by omega)) (by rfl) T.d__law_statement_of.m T.d__law_statement_of.F.kp T.d__law_statement_of.b .nil pass0 (pa_cons (pv 1) pa_nil)))
    (pss_cons (ps_if (pt_cmpR k_notN (pv 2) pe_non (nomark _)) (pss_one (ps_expr (pe_bm PySem.F.plainAttrs_list PySem.F.slot_list_append PySem.F.type_list_append mt_append (pe_ix (ixL K) (pv 0) pe_int (fun _ _ => rfl)) (pa_cons (pv 2) pa_nil)))) pss_nil)
    (pss_one (ps_ret (pe_cmpR k_notN (pv 2) pe_non (nomark _))))))))), ?_⟩
  cases hd : s.hd with
  | some q =>
    rw [rs_in hd] at qy qn
    have hM : ldM s z pf ps pe = [z, pf, ps, pe] := by unfold ldM; rw [hd]
    obtain ⟨wg, wb, p, l, us, rfl, ga, nb, b1, b2, b3, hb, bd, fp, fl, da⟩ := (r.hh q hd).ex
    obtain ⟨sq1, sq2, sq3⟩ := r.sq q hd
    rw [hM] at sa ga bd fp fl da mu
    have hz := r.hz
    rw [hd] at hz
    have hz : H z = some (.lst [.ref pf, .ref ps, .bl true]) := hz
    walk_at "r"
    refine a_ixL (v := .bl true) (SqL.of hz) (atI_nat (j := 2) rfl) ?_
    walk_at "r"
    refine ite2 (fun y => ?_) (fun y => ?_)
    · have y1 : tl x = tl "end" := by rw [of_decide_eq_true y]
      rw [if_pos y1] at qy
      walk_at "r"
      refine a_setLK hz (by simp) fun H1 k1 f1 => ?_
      have f1 : H1 z = some (.lst [.ref pf, .ref ps, .bl false]) := f1
      walk_at "r"
      have DM : Ex (dl [z, pf, ps, pe] H) (dl [z, pf, ps] H1) := fun b o h => by
        by_cases m : b ∈ [z, pf, ps, pe]
        · rw [dl_in m] at h
          cases h
        · rw [dl_nin m] at h
          have m' : b ∉ [z, pf, ps] := fun c => m (List.mem_append_left [pe] c)
          rw [dl_nin m']
          exact k1.at (fun c => m' (by rw [List.mem_singleton.mp c]; simp)) h
      have peM : pe ∉ [z, pf, ps] := fun c => by
        rcases List.mem_cons.mp c with c | c
        · exact b1 c
        rcases List.mem_cons.mp c with c | c
        · exact b2 c
        exact b3 (List.mem_singleton.mp c)
      have fe : (dl [z, pf, ps] H1) pe = some (.lst wb) := dl_at peM (k1.at (by simpa using b1) hb)
      have sfb : smD (fdat ⟨.str q.1, q.2, s.bd⟩) = true := by
        refine sm_lst (ds := [.str q.1, .list q.2, .list s.bd]) ?_ (by simp)
        show (smD (.str q.1) && (smD (.list q.2) && (smD (.list s.bd) && true))) = true
        rw [sq1, sm_lst sq2 sq3, sm_lst r.sb (by omega)]
        rfl
      refine qy _ rfl H1 ⟨pf, ps, pe, wg ++ [.ref p], ws, r.nz, r.nf, r.ns, r.d1, r.d2, r.d3, ks_base r.eb k1.k (by simpa using r.nz), f1, k1.at (by simpa using r.d1.symm) r.hf, k1.at (by simpa using r.d2.symm) r.hs, dpa_ex DM sa, fun _ => ?_, fun q' hq' => (by cases hq'), r.sm, ?_, rfl, fun q' hq' => (by cases hq'), ?_, Nat.le_succ_of_le ls, Nat.zero_le _⟩
      · rw [List.map_append]
        refine dpa_snoc (dpa_ex DM ga) ?_
        exact .lst (SqL.of (DM _ _ fp)) (.cons (.str _) (.cons (.lst (SqL.of (DM _ _ fl)) (dpa_ex DM da)) (.cons (.lst (SqL.of fe) (dpa_ex DM bd)) .nil)))
      · rw [List.map_append]
        exact sm_app1 r.sf sfb
      · show (s.fs ++ [_]).length ≤ _
        rw [List.length_append]
        exact Nat.succ_le_succ lf
    have y1 : ¬ tl x = tl "end" := fun z => y (decide_eq_true (by rw [← mkS_tl x, z, mkS_tl]))
    rw [if_neg y1] at qy qn
    walk_at "r"
    refine a_cutS hl (cut_to x 2) ?_
    walk_at "r"
    refine ite2 (fun y => ?_) (fun y => ?_)
    · have y2 := (eqm _ _).mp (of_decide_eq_true y)
      rw [if_pos y2] at qy qn
      walk_at "r"
      refine a_cutS hl (cut_from x 2) ?_
      walk_at "r"
      have t2 := tk.sub (List.drop_sublist 2 (tl x))
      refine ⟨mkS ((tl x).drop 2), rfl, by rw [tl_mkS]; exact t2, fun d hd' p2 H2 e2 dd => ?_, fun hd' H2 e2 => ?_⟩
      · rw [tl_mkS] at hd'
        rw [hd'] at qy
        walk_at "r"
        refine a_ixL (v := .ref pf) (SqL.of (e2 _ _ hz)) (atI_nat (j := 0) rfl) ?_
        walk_at "r"
        refine a_ixL (v := .ref p) (SqL.of (e2 _ _ r.hf)) (L2.atI_last wg (.ref p)) ?_
        walk_at "r"
        refine a_ixL (v := .ref pe) (SqL.of (e2 _ _ (dl_le _ _ _ _ fp))) (atI_nat (j := 2) rfl) ?_
        walk_at "r"
        refine ⟨a_ty (e2 _ _ hb), ?_⟩
        walk_at "r"
        have lw := dpa_len bd
        refine a_appK (e2 _ _ hb) (by omega) fun H3 k3 f3 => ?_
        walk_at "r"
        have K3 : Kp [pe] H H3 := (Kp.of e2).trans k3
        have DM : Ex (dl [z, pf, ps, pe] H) (dl [z, pf, ps, pe] H3) := dl_ks (K3.k.mono (by simp))
        have DM2 : Ex (dl [z, pf, ps, pe] H2) (dl [z, pf, ps, pe] H3) := dl_ks (k3.k.mono (by simp))
        have lb2 : (s.bd ++ [d]).length ≤ k + 1 := by
          rw [List.length_append]
          exact Nat.succ_le_succ lb
        refine qy _ rfl H3 ⟨pf, ps, pe, wg ++ [.ref p], ws, r.nz, r.nf, r.ns, r.d1, r.d2, r.d3, ks_base r.eb K3.k (by simpa using nb), K3.at (by simpa using b1.symm) hz, K3.at (by simpa using b2.symm) r.hf, K3.at (by simpa using b3.symm) r.hs, dpa_ex DM sa, fun h => (by cases h), fun q' hq' => ?_, r.sm, r.sf, sm_app1 r.sb (st_fine hd' t2.le).sm, fun q' hq' => ?_, Nat.le_succ_of_le lf, Nat.le_succ_of_le ls, lb2⟩
        · cases hq'
          exact ⟨wg, _, p, l, us, rfl, dpa_ex DM ga, nb, b1, b2, b3, f3, dpa_snoc (dpa_ex DM bd) (dp_ex DM2 (dd _ mu)), DM _ _ fp, DM _ _ fl, dpa_ex DM da⟩
        · cases hq'
          exact ⟨sq1, sq2, sq3⟩
      · rw [tl_mkS] at hd'
        rw [hd'] at qn
        walk_at "r"
        exact qn rfl H2 (r.eb.trans e2)
    · have y2 : ¬ (tl x).take 2 = tl "  " := fun z => y (decide_eq_true ((eqm _ _).mpr z))
      rw [if_neg y2] at qn
      walk_at "r"
      exact qn rfl H r.eb
  | none =>
    rw [rs_out hd] at qy qn
    have hM : ldM s z pf ps pe = [z, pf, ps] := by unfold ldM; rw [hd]
    have fa := r.fa hd
    rw [hM] at sa fa mu
    have hz := r.hz
    rw [hd] at hz
    have hz : H z = some (.lst [.ref pf, .ref ps, .bl false]) := hz
    have lw := dpa_len sa
    have lwf := dpa_len fa
    rw [List.length_map] at lwf
    have fin : ∀ H2, Ex H H2 → ∀ d, (stL nvL (tl x) = some d) → (if s.ss = [] then hdL nvL (tl x) else none) = none → ∀ p2, (∀ M, Mu M H → Dp K (dl M H2) (.ref p2) d) → ∀ H3, Kp [ps] H2 H3 → H3 ps = some (.lst (ws ++ [.ref p2])) → Q (.bl true) H3 := fun H2 e2 d hd' hh p2 dd H3 k3 f3 => by
      rw [hh, hd'] at qy
      have K3 : Kp [ps] H H3 := (Kp.of e2).trans k3
      have DM : Ex (dl [z, pf, ps] H) (dl [z, pf, ps] H3) := dl_ks (K3.k.mono (by simp))
      have DM2 : Ex (dl [z, pf, ps] H2) (dl [z, pf, ps] H3) := dl_ks (k3.k.mono (by simp))
      have ls2 : (s.ss ++ [d]).length ≤ k + 1 := by
        rw [List.length_append]
        exact Nat.succ_le_succ ls
      refine qy _ rfl H3 ⟨pf, ps, pe, wf, _, r.nz, r.nf, r.ns, r.d1, r.d2, r.d3, ks_base r.eb K3.k (by simpa using r.ns), K3.at (by simpa using r.d2) hz, K3.at (by simpa using r.d3) r.hf, f3, dpa_snoc (dpa_ex DM sa) (dp_ex DM2 (dd _ mu)), fun _ => dpa_ex DM fa, fun q' hq' => (by cases hq'), sm_app1 r.sm (st_fine hd' hl).sm, r.sf, rfl, fun q' hq' => (by cases hq'), Nat.le_succ_of_le lf, ls2, Nat.zero_le _⟩
    walk_at "r"
    refine a_ixL (v := .bl false) (SqL.of hz) (atI_nat (j := 2) rfl) ?_
    walk_at "r"
    refine ⟨x, rfl, tk, fun q hq p l e us H1 e1 np nl ne n1 n2 n3 f1 f2 f3 da => ?_, fun hq H1 e1 => ?_⟩
    · walk_at "r"
      refine a_ixL (v := .ref ps) (SqL.of (e1 _ _ hz)) (atI_nat (j := 1) rfl) ?_
      walk_at "r"
      refine a_lenL (SqL.of (e1 _ _ r.hs)) ?_
      walk_at "r"
      by_cases c : s.ss = []
      · rw [if_pos c, hq] at qy
        have w0 : ws.length = 0 := by rw [lw, c]; rfl
        rw [w0]
        refine ite2 (fun _ => ?_) (fun z => absurd rfl z)
        walk_at "r"
        refine a_ixL (v := .ref pf) (SqL.of (e1 _ _ hz)) (atI_nat (j := 0) rfl) ?_
        walk_at "r"
        refine ⟨a_ty (e1 _ _ r.hf), ?_⟩
        walk_at "r"
        refine a_appK (e1 _ _ r.hf) (by omega) fun H2 k2 g2 => ?_
        walk_at "r"
        refine a_setLK (k2.at (by simpa using r.d1) (e1 _ _ hz)) (by simp) fun H3 k3 g3 => ?_
        have g3 : H3 z = some (.lst [.ref pf, .ref ps, .bl true]) := g3
        walk_at "r"
        have zp : z ≠ p := ne_old hz np
        have zl : z ≠ l := ne_old hz nl
        have ze : z ≠ e := ne_old hz ne
        have fpn : pf ≠ p := ne_old r.hf np
        have fln : pf ≠ l := ne_old r.hf nl
        have fen : pf ≠ e := ne_old r.hf ne
        have spn : ps ≠ p := ne_old r.hs np
        have sln : ps ≠ l := ne_old r.hs nl
        have sen : ps ≠ e := ne_old r.hs ne
        have K13 : Ks [z, pf, ps] H1 H3 := (k2.k.mono (by simp)).trans (k3.k.mono (by simp))
        have D : ∀ {G : Hp}, Ks [z, pf, ps] G H3 → G e = none → Ex (dl [z, pf, ps] G) (dl [z, pf, ps, e] H3) := fun {G} k n b o h => by
          by_cases m : b ∈ [z, pf, ps]
          · rw [dl_in m] at h
            cases h
          · rw [dl_nin m] at h
            have nb : b ≠ e := ne_of_none h n
            rw [dl_nin (by
              intro c
              have c : b ∈ [z, pf, ps] ++ [e] := c
              rcases List.mem_append.mp c with c | c
              · exact m c
              · exact nb (List.mem_singleton.mp c))]
            exact k b o m h
        have K03 : Ks [z, pf, ps] H H3 := (Ks.of e1).trans K13
        have DM := D K03 ne
        have at3 : ∀ {a : Addr} {o : HO}, a ≠ z → a ≠ pf → a ≠ ps → H1 a = some o → H3 a = some o := fun {a o} h1 h2 h3 h => K13 a o (fun c => by
          rcases List.mem_cons.mp c with c | c
          · exact h1 c
          rcases List.mem_cons.mp c with c | c
          · exact h2 c
          · exact h3 (List.mem_singleton.mp c)) h
        have nin4 : ∀ {a : Addr}, a ≠ z → a ≠ pf → a ≠ ps → a ≠ e → a ∉ [z, pf, ps, e] := fun {a} h1 h2 h3 h4 c => by
          rcases List.mem_cons.mp c with c | c
          · exact h1 c
          rcases List.mem_cons.mp c with c | c
          · exact h2 c
          rcases List.mem_cons.mp c with c | c
          · exact h3 c
          · exact h4 (List.mem_singleton.mp c)
        have mu1 : Mu [z, pf, ps, e] H1 := fun y hy => by
          have hy : y ∈ [z, pf, ps] ++ [e] := hy
          rcases List.mem_append.mp hy with hy | hy
          · exact mu.ex e1 y hy
          · rw [List.mem_singleton.mp hy]
            exact ⟨_, f3, rfl⟩
        have nt : ntA q.2 = true := nt_all (hd_nt hq hl)
        obtain ⟨i1, i2, i3⟩ := hd_fine hq hl
        have sfm : H3 pf = some (.lst (wf ++ [.ref p])) := k3.at (by simpa using r.d1.symm) g2
        have D13 : Ex (dl [z, pf, ps, e] H1) (dl [z, pf, ps, e] H3) := dl_ks (K13.mono fun y hy => List.mem_append_left [e] hy)
        refine qy _ rfl H3 ⟨pf, ps, e, wf ++ [.ref p], ws, r.nz, r.nf, r.ns, r.d1, r.d2, r.d3, ks_base r.eb K03 (fun y hy => ?_), g3, sfm, k3.at (by simpa using r.d2.symm) (k2.at (by simpa using r.d3.symm) (e1 _ _ r.hs)), dpa_ex DM sa, fun h => (by cases h), fun q' hq' => ?_, r.sm, r.sf, rfl, fun q' hq' => ?_, Nat.le_succ_of_le lf, Nat.le_succ_of_le ls, Nat.zero_le _⟩
        · exact r.isb (by rw [hM]; exact hy)
        · cases hq'
          exact ⟨wf, [], p, l, us, rfl, dpa_ex DM fa, ex_none r.eb ne, ze.symm, fen.symm, sen.symm, at3 ze.symm fen.symm sen.symm f3, .nil, dl_at (nin4 zp.symm fpn.symm spn.symm n2) (at3 zp.symm fpn.symm spn.symm f1), dl_at (nin4 zl.symm fln.symm sln.symm n3) (at3 zl.symm fln.symm sln.symm f2), dpa_ex D13 (mu1.dpa da nt)⟩
        · cases hq'
          exact ⟨i1.sm, sm_of fun d m => (i3 d m).sm, by omega⟩
      · have w0 : ¬ ws.length = 0 := fun z => c (List.eq_nil_of_length_eq_zero (by rw [← lw]; exact z))
        have hh : (if s.ss = [] then hdL nvL (tl x) else none) = none := if_neg c
        refine ite2 (fun z => absurd (of_decide_eq_true z) (by omega)) (fun _ => ?_)
        walk_at "r"
        refine ⟨x, rfl, tk, fun d hd' p2 H2 e2 dd => ?_, fun hd' H2 e2 => ?_⟩
        · walk_at "r"
          have E2 := e1.trans e2
          refine a_ixL (v := .ref ps) (SqL.of (E2 _ _ hz)) (atI_nat (j := 1) rfl) ?_
          walk_at "r"
          refine ⟨a_ty (E2 _ _ r.hs), ?_⟩
          walk_at "r"
          refine a_appK (E2 _ _ r.hs) (by omega) fun H3 k3 g3 => ?_
          walk_at "r"
          exact fin H2 E2 d hd' hh p2 (fun M mu => dd M (mu.ex e1)) H3 k3 g3
        · rw [hh, hd'] at qn
          walk_at "r"
          exact qn rfl H2 (r.eb.trans (e1.trans e2))
    · have hh : (if s.ss = [] then hdL nvL (tl x) else none) = none := by
        split
        · exact hq
        · rfl
      walk_at "r"
      refine ⟨x, rfl, tk, fun d hd' p2 H2 e2 dd => ?_, fun hd' H2 e2 => ?_⟩
      · walk_at "r"
        have E2 := e1.trans e2
        refine a_ixL (v := .ref ps) (SqL.of (E2 _ _ hz)) (atI_nat (j := 1) rfl) ?_
        walk_at "r"
        refine ⟨a_ty (E2 _ _ r.hs), ?_⟩
        walk_at "r"
        refine a_appK (E2 _ _ r.hs) (by omega) fun H3 k3 g3 => ?_
        walk_at "r"
        exact fin H2 E2 d hd' hh p2 (fun M mu => dd M (mu.ex e1)) H3 k3 g3
      · rw [hh, hd'] at qn
        walk_at "r"
        exact qn rfl H2 (r.eb.trans (e1.trans e2))
end
section
variable {P : Program} {w : World} {K : PySem.W.Frag} {mg : Str → Option Value} {base : Heap}
open TL
theorem res_ok {nv : NV} {t : Ln} {i : List Ln} {r : Ln} {s : Rs} (h : spl [10] 0 [] t = i ++ [r]) (e : runL nv rs0 0 (lsOf i r) = .inr s) : resL nv t = if r ≠ [] ∨ s.hd.isSome = true then .list [.int (i.length : Nat), .str "too short"]
      else if progD s.fs s.ss = true then .list [.list (s.fs.map fdat), .list s.ss] else .list [.int (i.length : Nat), .str "no program"] := by
  rw [res_of h, e]
theorem res_bad {nv : NV} {t : Ln} {i : List Ln} {r : Ln} {k : Nat} (h : spl [10] 0 [] t = i ++ [r]) (e : runL nv rs0 0 (lsOf i r) = .inl k) : resL nv t = .list [.int (k : Nat), .str "unexpected"] := by
  rw [res_of h, e]
theorem ex_dl1 {H H1 : Hp} {d : Addr} (n : H d = none) (e : Ex H H1) : Ex H (dl [d] H1) := fun b o h => by
  rw [dl_nin (by simpa using ne_of_none h n)]
  exact e b o h
theorem progD_len {fs : List FD} {ss : List PyData} (h : progD fs ss = true) : fs.length ≤ 4 := by
  unfold progD stsD at h
  rw [Bool.and_eq_true, Bool.and_eq_true, Bool.and_eq_true, Bool.and_eq_true] at h
  exact of_decide_eq_true h.1.1.1
def pTo (K : PySem.W.Frag) : Sp := fun vs H Q _ => ∃ x, vs = [.str x] ∧ (tl x).length ≤ 50000 ∧ ∀ v H1, Ex H H1 → Dp K H1 v (resL nvP (tl x)) → Q v H1
theorem ok__law_told (T : Tx K mg) : FnOk P w K mg base CX0 13 T.a__law_told T.e__law_told p__law_told (pTo K) := by
  refine T.d__law_told.F.ok sc__law_told (fun vs H Q E h => ?_) (fun cdv A outer s H vs Q E hr h => ?_)
  · obtain ⟨x, rfl, _⟩ := h
    rfl
  obtain ⟨x, rfl, hl, q⟩ := h
  have hu := hu_of hr
  refine ⟨_, (pss_cons (ps_try_as (i := 2) (Wout := fun _ _ _ _ => False) rfl rfl sc__law_told.nd rfl rfl ⟨rfl, by decide, Or.inl T.g_TextError⟩ takes0 (fun W pn xe tk po => (pss_one (ps_set (i := 1) sc__law_told.nd rfl (.inl rfl) (pe_callS (ok_read_program T) (hr.mono (by omega)) (by rfl) T.d_read_program.m T.d_read_program.F.kp T.d_read_program.b (fun σ => passAt tk σ) (pa_cons (pv 0) pa_nil))))) (fun a oe cls d pn hz hf => (pss_one (ps_ret (pe_lst (pa_cons (by exact (pe_xf T.x_TextError T.n_TextError_line hz hf (pv 2))) (pa_cons (by exact (pe_xf T.x_TextError T.n_TextError_reason hz hf (pv 2))) pa_nil)))))))
    (pss_one (ps_ret (pe_lst (pa_cons (pe_lc (own := [("f", 3)]) (g := gName 3) rfl sc__law_told.nd  (plK K (by exact (fldK K (pv 1) rfl))) (blkOk_by (own := [("f", 3)]) (N := n__law_told) (sc := defScope s__law_told) (by decide +kernel)) (fun _ _ _ _ _ => (pg_name (i := 3) sc__law_told.nd rfl (Or.inl rfl))) (fun _ _ _ _ _ => pts_nil) (fun _ _ _ _ _ => (pe_lst (pa_cons (by exact (fldK K (pv 3) rfl)) (pa_cons (by exact (fldK K (pv 3) rfl)) (pa_cons (by exact (fldK K (pv 3) rfl)) pa_nil)))))) (pa_cons (by exact (fldK K (pv 1) rfl)) pa_nil)))))), ?_⟩
  walk_at "r"
  refine ⟨x, rfl, hl, fun k r hk d H1 e1 f1 => ?_, fun fs ss hk pd z H1 n1 e1 pg => ?_⟩
  · refine ⟨true, T.s_TextError, fun _ a na => ?_, fun z => by cases z⟩
    walk_at "r"
    refine ⟨rfl, rfl, d, _, .int k, rfl, f1, rfl, ?_⟩
    walk_at "r"
    refine ⟨rfl, rfl, d, _, .str r, rfl, f1, rfl, ?_⟩
    walk_at "r"
    refine new_lst (xs := [.int (k : Nat), .str r]) (by simp) fun p H2 n2 e2 f2 => ?_
    refine q _ H2 (e1.trans e2) ?_
    rw [hk]
    exact .lst (SqL.of f2) (.cons (.int _) (.cons (.str _) .nil))
  · obtain ⟨dz, r1, r2, ws1, ws2, g1, g2, g3, g4, g5⟩ := pg.ex
    have lfs := g3.len
    walk_at "r"
    refine a_get T.c_Program T.n_Program_functions g1 (pg_fns _ _) ?_
    walk_at "r"
    refine c_L (SqL.of g2) ?_
    refine cp_list (xs := ws1) (fun d j hh => Ex H1 hh ∧ ∃ ws, hh d = some (.lst ws) ∧ DpAll K (dl [d] hh) ws ((fs.take j).map fdat)) (fun d n => ⟨Ex.new n, [], upd_same, .nil⟩) (fun d j hh _ _ y => SqL.of (y.1 _ _ g2)) ?_ ?_
    · rintro d j u hh nd hj ⟨Y, ws, fd, dw⟩
      obtain ⟨a, f, rfl, hf, fa⟩ := g3.get hj
      have hj2 := at_lt hf
      obtain ⟨dx, nv, q1, q2, h1, h2, h3, h4⟩ := fa.ex
      have lw := dpa_len dw
      rw [List.length_map, List.length_take] at lw
      walk_at "r"
      refine ⟨rfl, ?_⟩
      walk_at "r"
      refine a_get T.c_Function T.n_Function_name (Y _ _ h1) (fn_name _ _ _) ?_
      walk_at "r"
      refine a_get T.c_Function T.n_Function_params (Y _ _ h1) (fn_params _ _ _) ?_
      walk_at "r"
      refine a_get T.c_Function T.n_Function_body (Y _ _ h1) (fn_body _ _ _) ?_
      walk_at "r"
      refine new_lst (xs := [nv, .ref q1, .ref q2]) (by simp) fun p3 H3 n3 e3 f3 => ?_
      obtain ⟨z1, i1, j1⟩ := h3.ex
      obtain ⟨z2, i2, j2⟩ := h4.ex
      have Z : Ex H1 (dl [d] H3) := ex_dl1 nd (Y.trans e3)
      have pd3 : p3 ≠ d := (ne_old fd n3).symm
      have lim : fs.length ≤ 100000 := by
        have := (progD_len pd)
        omega
      refine ⟨ws, e3 _ _ fd, sz_lt (by omega), (Y.trans e3).mut nd, _, upd_same, ?_⟩
      rw [dl_upd (by simp), take_snoc hf, List.map_append]
      refine dpa_snoc (dpa_ex (dl_ex e3) dw) ?_
      exact .lst (SqL.of (dl_at (by simpa using pd3) f3)) (.cons (dp_ex Z h2.1) (.cons (.lst (SqL.of (Z _ _ i1)) (dpa_ex Z j1)) (.cons (.lst (SqL.of (Z _ _ i2)) (dpa_ex Z j2)) .nil)))
    rintro d hh nd ⟨Y, ws, fd, dw⟩
    rw [lfs, List.take_length] at dw
    walk_at "r"
    refine a_get T.c_Program T.n_Program_statements (Y _ _ g1) (pg_sts _ _) ?_
    walk_at "r"
    refine new_lst (xs := [.ref d, .ref r2]) (by simp) fun p4 H4 n4 e4 f4 => ?_
    refine q _ H4 (e1.trans (Y.trans e4)) ?_
    rw [hk]
    exact .lst (SqL.of f4) (.cons (.lst (SqL.of (e4 _ _ fd)) (dpa_ex ((dl_le _ _).trans e4) dw)) (.cons (.lst (SqL.of (e4 _ _ (Y _ _ g4))) (dpa_ex (Y.trans e4) g5)) .nil))
theorem Ld.more {K : PySem.W.Frag} {B H : Hp} {z : Addr} {k : Nat} {s : Rs} (r : Ld K B z k s H) : Ld K B z (k + 1) s H := by
  obtain ⟨pf, ps, pe, wf, ws, x⟩ := r.ex
  exact ⟨pf, ps, pe, wf, ws, { x with lf := Nat.le_succ_of_le x.lf, ls := Nat.le_succ_of_le x.ls, lb := Nat.le_succ_of_le x.lb }⟩
def pDu (K : PySem.W.Frag) : Sp := fun vs H Q _ => ∃ x, vs = [.str x] ∧ Tkl (tl x) ∧ ∀ v H1, Ex H H1 → Dp K H1 v (resL nvL (tl x)) → Q v H1
theorem ok__law_due (T : Tx K mg) : FnOk P w K mg base CX0 13 T.a__law_due T.e__law_due p__law_due (pDu K) := by
  refine T.d__law_due.F.ok sc__law_due (fun vs H Q E h => ?_) (fun cdv A outer s H vs Q E hr h => ?_)
  · obtain ⟨x, rfl, _⟩ := h
    rfl
  obtain ⟨x, rfl, tk, q⟩ := h
  have hu := hu_of hr
  have hl := tk.le
  refine ⟨_, (pss_cons (ps_set (i := 1) sc__law_due.nd rfl (.inl rfl) (pe_m1 PySem.F.slot_str_split PySem.F.type_str_split mtSpl (pv 0) pe_str))
    (pss_cons (ps_set (i := 2) sc__law_due.nd rfl (.inl rfl) (pe_lst (pa_cons (pe_lst pa_nil) (pa_cons (pe_lst pa_nil) (pa_cons pe_bl pa_nil)))))
    (pss_cons (ps_for PassesOwn.never rfl (pi_range1 (by rfl) T.b_range (pa_cons (pe_callB (lenK K) (by rfl) T.b_len PySem.boot_len (pa_cons (pv 1) pa_nil)) pa_nil)) (pg_name (i := 3) sc__law_due.nd rfl (.inl rfl)) (pss_one (ps_if (PW.pt (pw_or (pt_cmpR op_lt (pv 3) (pe_op op_sub (pe_callB (lenK K) (by rfl) T.b_len PySem.boot_len (pa_cons (pv 1) pa_nil)) pe_int) (nomark _)) (pw_or1 (pt_cmpR op_ne (pe_ix (ixL K) (pv 1) (pv 3) (fun _ _ => rfl)) pe_str (nomark _))))) (pss_one (ps_if (pt_not (pt_val (pe_call (ok__law_taken T) (hr.mono (by omega)) (by rfl) T.d__law_taken.m T.d__law_taken.F.kp T.d__law_taken.b .nil pass0 (pa_cons (pv 2) (pa_cons (pe_ix (ixL K) (pv 1) (pv 3) (fun _ _ => rfl)) pa_nil))))) (pss_one (ps_ret (pe_lst (pa_cons (pv 3) (pa_cons pe_str pa_nil))))) pss_nil)) pss_nil)))
    (pss_cons (ps_if (PW.pt (pw_or (pt_cmpR op_ne (pe_ix (ixL K) (pv 1) (pe_un un_neg pe_int) (fun _ _ => rfl)) pe_str (nomark _)) (pw_or1 (pt_val (pe_ix (ixL K) (pv 2) pe_int (fun _ _ => rfl)))))) (pss_one (ps_ret (pe_lst (pa_cons (pe_op op_sub (pe_callB (lenK K) (by rfl) T.b_len PySem.boot_len (pa_cons (pv 1) pa_nil)) pe_int) (pa_cons pe_str pa_nil))))) pss_nil)
    (pss_cons (ps_try_as (i := 5) (Wout := fun _ _ _ _ => False) rfl rfl sc__law_due.nd rfl rfl ⟨rfl, by decide, Or.inl T.g_RightsError⟩ takes0 (fun W pn xe tk po => (pss_one (ps_set (i := 4) sc__law_due.nd rfl (.inl rfl) (pe_callS (ok__law_made T) (hr.mono (by omega)) (by rfl) T.d__law_made.m T.d__law_made.F.kp T.d__law_made.b (fun σ => passAt tk σ) (pa_cons (pe_lst (pa_cons (pe_ix (ixL K) (pv 2) pe_int (fun _ _ => rfl)) (pa_cons (pe_ix (ixL K) (pv 2) pe_int (fun _ _ => rfl)) pa_nil))) pa_nil))))) (fun a oe cls d pn hz hf => (pss_one (ps_ret (pe_lst (pa_cons (pe_op op_sub (pe_callB (lenK K) (by rfl) T.b_len PySem.boot_len (pa_cons (pv 1) pa_nil)) pe_int) (pa_cons (by exact (pe_xf T.x_RightsError T.n_RightsError_reason hz hf (pv 5))) pa_nil)))))))
    (pss_one (ps_ret (pe_lst (pa_cons (pe_lc (own := [("f", 6)]) (g := gName 6) rfl sc__law_due.nd  (plK K (by exact (fldK K (pv 4) rfl))) (blkOk_by (own := [("f", 6)]) (N := n__law_due) (sc := defScope s__law_due) (by decide +kernel)) (fun _ _ _ _ _ => (pg_name (i := 6) sc__law_due.nd rfl (Or.inl rfl))) (fun _ _ _ _ _ => pts_nil) (fun _ _ _ _ _ => (pe_lst (pa_cons (by exact (fldK K (pv 6) rfl)) (pa_cons (by exact (fldK K (pv 6) rfl)) (pa_cons (by exact (fldK K (pv 6) rfl)) pa_nil)))))) (pa_cons (by exact (fldK K (pv 4) rfl)) pa_nil)))))))))), ?_⟩
  have sN : tl "\n" = [10] := by decide +kernel
  have hS : tl "\n" ≠ [] := by rw [sN]; simp
  walk_at "r"
  refine ⟨⟨_, rfl⟩, ?_⟩
  walk_at "r"
  refine a_spl hS (by decide +kernel) hl fun l H1 n1 e1 f1 => ?_
  rw [sN] at f1
  have cnt := spl_cnt (S := [10]) (by simp) (tl x).length (tl x) [] (Nat.le_refl _)
  have sub := spl_sub (S := [10]) (by simp) (tl x).length (tl x) [] (Nat.le_refl _)
  obtain ⟨ini, rest, hs⟩ := last_of (spl_ne (S := [10]) (by simp) (tl x) [])
  have rOk := fun s => res_ok (nv := nvL) (s := s) hs
  have rBad := fun k => res_bad (nv := nvL) (k := k) hs
  rw [hs] at f1 cnt sub
  have f1 : H1 l = some (.lst (slV (ini ++ [rest]))) := by
    rw [f1]
    unfold slV
    rw [List.map_map]
    rfl
  have lI : ini.length ≤ 50000 := by rw [List.length_append] at cnt; have : [rest].length = 1 := rfl; omega
  have lL : (slV (ini ++ [rest])).length = ini.length + 1 := by rw [slV_len, List.length_append]; rfl
  have tks : ∀ y ∈ ini ++ [rest], Tkl y := fun y my => tk.sub (by simpa using sub y my)
  have eqs : mkS rest = ("" : Str) ↔ rest = [] := ⟨fun z => by rw [← tl_mkS rest, z]; rfl, fun z => by rw [z]; rfl⟩
  walk_at "r"
  refine new_lst (xs := []) (by simp) fun pf H2 n2 e2 f2 => ?_
  walk_at "r"
  refine new_lst (xs := []) (by simp) fun ps H3 n3 e3 f3 => ?_
  walk_at "r"
  refine new_lst (xs := [.ref pf, .ref ps, .bl false]) (by simp) fun z H4 n4 e4 f4 => ?_
  have ld0 : Ld K H1 z 0 rs0 H4 := Ld.start (e2.trans (e3.trans e4)) (ex_none (e2.trans e3) n4) n2 (ex_none e2 n3) (ne_old (e3 _ _ f2) n4).symm (ne_old f3 n4).symm (ne_old f2 n3) f4 (e4 _ _ (e3 _ _ f2)) (e4 _ _ f3)
  walk_at "r"
  have E14 := e2.trans (e3.trans e4)
  refine a_lenL (SqL.of (E14 _ _ f1)) ?_
  rw [lL]
  refine ⟨_, rfl, by omega, by omega, ?_⟩
  have lsl : (lsOf ini rest).length = ini.length ∧ rest = [] ∧ lsOf ini rest = ini ∨ (lsOf ini rest).length = ini.length + 1 ∧ rest ≠ [] ∧ lsOf ini rest = ini ++ [rest] := by
    by_cases c : rest = []
    · have : lsOf ini rest = ini := if_pos c
      exact .inl ⟨by rw [this], c, this⟩
    · have : lsOf ini rest = ini ++ [rest] := if_neg c
      exact .inr ⟨by rw [this, List.length_append]; rfl, c, this⟩
  generalize hls : lsOf ini rest = ls at *
  have sl : ∀ {G : Hp}, Ex H1 G → SqL K G l (slV (ini ++ [rest])) := fun e => SqL.of (e _ _ f1)
  rw [show (((ini.length + 1 : Nat) : Int)).toNat = ini.length + 1 from rfl]
  refine lp_range (n := ini.length + 1) (fun k σ h => (∃ x3 x4 x5 x6, σ = [some (.str x), some (.ref l), some (.ref z), x3, x4, x5, x6]) ∧ ∃ s, (k ≤ ls.length → runL nvL rs0 0 ls = runL nvL s k (ls.drop k)) ∧ (ls.length < k → runL nvL rs0 0 ls = .inr s) ∧ Ld K H1 z k s h)
    ⟨⟨_, _, _, _, rfl⟩, rs0, fun _ => rfl, fun h => absurd h (by omega), ld0⟩ ?_ ?_
  · rintro k σ h hk ⟨⟨x3, x4, x5, x6, rfl⟩, s, r1, r2, ld⟩
    rw [Int.zero_add]
    obtain ⟨ln, hln⟩ : ∃ ln, (ini ++ [rest])[k]? = some ln := ⟨_, List.getElem?_eq_getElem (by rw [List.length_append]; exact hk)⟩
    have gk : (slV (ini ++ [rest]))[k]? = some (.str (mkS ln)) := by
      unfold slV
      rw [List.getElem?_map, List.getElem?_map, hln]
      rfl
    walk_at "r"
    refine a_lenL (sl ld.eb) ?_
    rw [lL]
    walk_at "r"
    refine ite2 (fun y => ?_) (fun y => ?_)
    case' refine_1 =>
      have kn : k < ini.length := by
        have := of_decide_eq_true y
        omega
      have kl : k < ls.length ∧ ls[k]? = some ln := by
        rcases lsl with ⟨h1, h2, h3⟩ | ⟨h1, h2, h3⟩
        · refine ⟨by omega, ?_⟩
          rw [h3, ← hln, List.getElem?_append_left kn]
        · refine ⟨by omega, ?_⟩
          rw [h3]
          exact hln
    case' refine_2 =>
      have kn : ¬ k < ini.length := fun c => y (decide_eq_true (by omega))
      have ke : k = ini.length := by omega
      have er : ln = rest := by
        rw [ke, List.getElem?_append_right (Nat.le_refl _), Nat.sub_self] at hln
        exact (Option.some.inj hln).symm
      walk_at "r"
      refine a_ixL (v := .str (mkS ln)) (sl ld.eb) (atI_nat (j := k) gk) ?_
      walk_at "r"
      refine ite2 (fun y2 => ?_) (fun y2 => ?_)
      rotate_left
      · have r0 : rest = [] := by
          cases w : decide (rest = []) with
          | true => exact of_decide_eq_true w
          | false =>
            rw [er] at y2
            exact absurd (by rw [decide_eq_false (fun v => of_decide_eq_false w (eqs.mp v))]; rfl) y2
        walk_at "r"
        have kls : ls.length = k := by
          rcases lsl with ⟨h1, h2, h3⟩ | ⟨h1, h2, h3⟩
          · omega
          · exact absurd r0 h2
        refine ⟨⟨_, _, _, _, rfl⟩, s, fun c => absurd c (by omega), fun _ => ?_, ld.more⟩
        rw [r1 (by omega), ← kls, List.drop_length]
        rfl
      have r0 : rest ≠ [] := fun w => by
        rw [er, decide_eq_true (eqs.mpr w)] at y2
        cases y2
      have kl : k < ls.length ∧ ls[k]? = some ln := by
        rcases lsl with ⟨h1, h2, h3⟩ | ⟨h1, h2, h3⟩
        · exact absurd h2 r0
        · refine ⟨by omega, ?_⟩
          rw [h3]
          exact hln
    all_goals
      obtain ⟨kl1, kl2⟩ := kl
      have dr : ls.drop k = ln :: ls.drop (k + 1) := by
        rw [List.drop_eq_getElem_cons kl1]
        rw [List.getElem?_eq_getElem kl1] at kl2
        rw [Option.some.inj kl2]
      have r1 := r1 (Nat.le_of_lt kl1)
      rw [dr] at r1
      walk_at "r"
      refine a_ixL (v := .str (mkS ln)) (sl ld.eb) (atI_nat (j := k) gk) ?_
      walk_at "r"
      refine ⟨H1, z, k, s, mkS ln, rfl, by rw [tl_mkS]; exact tks ln (List.mem_of_getElem? hln), ld, by omega, fun s' hs' h2 ld2 => ?_, fun hn h2 e5 => ?_⟩
      · rw [tl_mkS] at hs'
        rw [run_step hs'] at r1
        walk_at "r"
        exact ⟨⟨_, _, _, _, rfl⟩, s', fun _ => r1, fun c => absurd c (by omega), ld2⟩
      · rw [tl_mkS] at hn
        rw [run_stop hn] at r1
        walk_at "r"
        refine new_lst (xs := [.int (k : Nat), .str "unexpected"]) (by simp) fun p H6 n6 e6 f6 => ?_
        refine q _ H6 (e1.trans (e5.trans e6)) ?_
        rw [rBad k r1]
        exact .lst (SqL.of f6) (.cons (.int _) (.cons (.str _) .nil))
  rintro σ h ⟨⟨x3, x4, x5, x6, rfl⟩, s, r1, r2, ld⟩
  have rn : runL nvL rs0 0 ls = .inr s := by
    by_cases c : ls.length < ini.length + 1
    · exact r2 c
    · have c2 : ls.length = ini.length + 1 := by
        rcases lsl with ⟨h1, h2, h3⟩ | ⟨h1, h2, h3⟩ <;> omega
      rw [r1 (by omega), ← c2, List.drop_length]
      rfl
  have rOk := rOk s rn
  have Xh : Ex H h := e1.trans ld.eb
  obtain ⟨pf', ps', pe', wf, ws, r⟩ := ld.ex
  have lasts : atI (slV (ini ++ [rest])) (-1) = some (.str (mkS rest)) := by
    rw [slV_app]
    exact L2.atI_last _ _
  have lf := r.lf
  have ls' := r.ls
  have e0 : (((ini.length + 1 : Nat) : Int) - 1) = (ini.length : Nat) := by omega
  have tooS : rest ≠ [] ∨ s.hd.isSome = true → ∀ h4 p, Ex h h4 → h4 p = some (.lst [.int (ini.length : Nat), .str "too short"]) → Q (.ref p) h4 := fun c h4 p e4 f4 => by
    refine q _ h4 (Xh.trans e4) ?_
    rw [rOk, if_pos c]
    exact .lst (SqL.of f4) (.cons (.int _) (.cons (.str _) .nil))
  walk_at "r"
  refine a_ixL (v := .str (mkS rest)) (sl ld.eb) lasts ?_
  walk_at "r"
  refine ite2 (fun c => ?_) (fun c => ?_)
  · have c0 : rest ≠ [] := fun w => by
      rw [decide_eq_true (eqs.mpr w)] at c
      cases c
    walk_at "r"
    refine a_lenL (sl ld.eb) ?_
    rw [lL]
    walk_at "r"
    rw [e0]
    refine new_lst (xs := [.int (ini.length : Nat), .str "too short"]) (by simp) fun p H6 n6 e6 f6 => tooS (.inl c0) H6 p e6 f6
  have c1 : rest = [] := by
    cases w : decide (rest = []) with
    | true => exact of_decide_eq_true w
    | false => exact absurd (by rw [decide_eq_false (fun v => of_decide_eq_false w (eqs.mp v))]; rfl) c
  walk_at "r"
  refine a_ixL (v := .bl s.hd.isSome) (SqL.of r.hz) (atI_nat (j := 2) rfl) ?_
  cases hd : s.hd with
  | some qq =>
    refine ⟨true, rfl, ?_⟩
    refine ite2 (fun _ => ?_) (fun w => absurd rfl w)
    walk_at "r"
    refine a_lenL (sl ld.eb) ?_
    rw [lL]
    walk_at "r"
    rw [e0]
    refine new_lst (xs := [.int (ini.length : Nat), .str "too short"]) (by simp) fun p H6 n6 e6 f6 => tooS (.inr (by rw [hd]; rfl)) H6 p e6 f6
  | none =>
    have nts : ¬ (rest ≠ [] ∨ s.hd.isSome = true) := fun w => by
      rcases w with w | w
      · exact w c1
      · rw [hd] at w
        cases w
    rw [if_neg nts] at rOk
    have hz := r.hz
    refine ⟨false, rfl, ?_⟩
    refine ite2 (fun w => absurd w (by decide)) (fun _ => ?_)
    walk_at "r"
    refine a_ixL (v := .ref pf') (SqL.of hz) (atI_nat (j := 0) rfl) ?_
    walk_at "r"
    refine a_ixL (v := .ref ps') (SqL.of hz) (atI_nat (j := 1) rfl) ?_
    walk_at "r"
    refine new_lst (xs := [.ref pf', .ref ps']) (by simp) fun p5 H5 n5 e5 f5 => ?_
    walk_at "r"
    have d1 := dpa_ex ((dl_le _ _).trans e5) (r.fa hd)
    have d2 := dpa_ex ((dl_le _ _).trans e5) r.sa
    have sm1 : smD (.list (s.fs.map fdat)) = true := sm_lst r.sf (by rw [List.length_map]; omega)
    have sm2 : smD (.list s.ss) = true := sm_lst r.sm (by omega)
    have sm3 : smD (.list [.list (s.fs.map fdat), .list s.ss]) = true := by
      refine sm_lst ?_ (by simp)
      show (smD (.list (s.fs.map fdat)) && (smD (.list s.ss) && true)) = true
      rw [sm1, sm2]
      rfl
    refine ⟨.ref p5, s.fs, s.ss, rfl, ⟨.lst (SqL.of f5) (.cons (.lst (SqL.of (e5 _ _ r.hf)) d1) (.cons (.lst (SqL.of (e5 _ _ r.hs)) d2) .nil)), sm3⟩, fun pd zz H1' n1' e1' pg => ?_, fun npd d H1' e1' f1' => ?_⟩
    · rw [if_pos pd] at rOk
      obtain ⟨dz, r1, r2, ws1, ws2, g1, g2, g3, g4, g5⟩ := pg.ex
      have lfs := g3.len
      walk_at "r"
      refine a_get T.c_Program T.n_Program_functions g1 (pg_fns _ _) ?_
      walk_at "r"
      refine c_L (SqL.of g2) ?_
      refine cp_list (xs := ws1) (fun d j hh => Ex H1' hh ∧ ∃ ws, hh d = some (.lst ws) ∧ DpAll K (dl [d] hh) ws ((s.fs.take j).map fdat)) (fun d n => ⟨Ex.new n, [], upd_same, .nil⟩) (fun d j hh _ _ y => SqL.of (y.1 _ _ g2)) ?_ ?_
      · rintro d j u hh nd hj ⟨Y, ws, fd, dw⟩
        obtain ⟨a, f, rfl, hf, fa⟩ := g3.get hj
        have hj2 := at_lt hf
        obtain ⟨dx, nv, q1, q2, h1, h2, h3, h4⟩ := fa.ex
        have lw := dpa_len dw
        rw [List.length_map, List.length_take] at lw
        walk_at "r"
        refine ⟨rfl, ?_⟩
        walk_at "r"
        refine a_get T.c_Function T.n_Function_name (Y _ _ h1) (fn_name _ _ _) ?_
        walk_at "r"
        refine a_get T.c_Function T.n_Function_params (Y _ _ h1) (fn_params _ _ _) ?_
        walk_at "r"
        refine a_get T.c_Function T.n_Function_body (Y _ _ h1) (fn_body _ _ _) ?_
        walk_at "r"
        refine new_lst (xs := [nv, .ref q1, .ref q2]) (by simp) fun p3 H3 n3 e3 f3 => ?_
        obtain ⟨z1, i1, j1⟩ := h3.ex
        obtain ⟨z2, i2, j2⟩ := h4.ex
        have Z : Ex H1' (dl [d] H3) := ex_dl1 nd (Y.trans e3)
        have pd3 : p3 ≠ d := (ne_old fd n3).symm
        have lim : s.fs.length ≤ 100000 := by
          have := (progD_len pd)
          omega
        refine ⟨ws, e3 _ _ fd, sz_lt (by omega), (Y.trans e3).mut nd, _, upd_same, ?_⟩
        rw [dl_upd (by simp), take_snoc hf, List.map_append]
        refine dpa_snoc (dpa_ex (dl_ex e3) dw) ?_
        exact .lst (SqL.of (dl_at (by simpa using pd3) f3)) (.cons (dp_ex Z h2.1) (.cons (.lst (SqL.of (Z _ _ i1)) (dpa_ex Z j1)) (.cons (.lst (SqL.of (Z _ _ i2)) (dpa_ex Z j2)) .nil)))
      rintro d hh nd ⟨Y, ws, fd, dw⟩
      rw [lfs, List.take_length] at dw
      walk_at "r"
      refine a_get T.c_Program T.n_Program_statements (Y _ _ g1) (pg_sts _ _) ?_
      walk_at "r"
      refine new_lst (xs := [.ref d, .ref r2]) (by simp) fun p4 H4 n4 e4 f4 => ?_
      refine q _ H4 (Xh.trans (e5.trans (e1'.trans (Y.trans e4)))) ?_
      rw [rOk]
      exact .lst (SqL.of f4) (.cons (.lst (SqL.of (e4 _ _ fd)) (dpa_ex ((dl_le _ _).trans e4) dw)) (.cons (.lst (SqL.of (e4 _ _ (Y _ _ g4))) (dpa_ex (Y.trans e4) g5)) .nil))
    · rw [if_neg (by rw [npd]; intro w; cases w)] at rOk
      refine ⟨true, T.s_RightsError, fun _ a na => ?_, fun w => by cases w⟩
      walk_at "r"
      refine a_lenL (sl (ld.eb.trans (e5.trans e1'))) ?_
      rw [lL]
      walk_at "r"
      rw [e0]
      refine ⟨rfl, rfl, d, _, .str "no program", rfl, f1', rfl, ?_⟩
      walk_at "r"
      refine new_lst (xs := [.int (ini.length : Nat), .str "no program"]) (by simp) fun p H6 n6 e6 f6 => ?_
      refine q _ H6 (Xh.trans (e5.trans (e1'.trans e6))) ?_
      rw [rOk]
      exact .lst (SqL.of f6) (.cons (.int _) (.cons (.str _) .nil))
end
section
variable {P : Program} {w : World} {K : PySem.W.Frag} {mg : Str → Option Value} {base : Heap}
def pDpt (K : PySem.W.Frag) : Sp := fun vs H Q _ => ∃ S v st, vs = [v] ∧ Al S H ∧ Dp K (dl S H) v (stD st) ∧ ∀ v' H1, Ex H H1 → Dp K (dl S H1) v' (sks st) → Q v' H1
theorem ok__law_depth (T : Tx K mg) : FnOk P w K mg base CX0 1 T.a__law_depth T.e__law_depth p__law_depth (pDpt K) := by
  refine T.d__law_depth.F.ok sc__law_depth (fun vs H Q E h => ?_) (fun cdv A outer s H vs Q E hr h => ?_)
  · obtain ⟨S, v, st, rfl, _⟩ := h
    rfl
  obtain ⟨S, v, st, rfl, al, dv, q⟩ := h
  refine ⟨_, (pss_cons (ps_if (pt_cmpR op_eq (pe_ix (ixT K) (pv 0) pe_int (fun _ _ => rfl)) pe_str (nomark _)) (pss_one (ps_ret (pe_tup (pa_cons pe_str (pa_cons (pe_ix (ixT K) (pv 0) pe_int (fun _ _ => rfl)) (pa_cons (pe_op op_sub (pe_callB (lenK K) (by rfl) T.b_len PySem.boot_len (pa_cons (pe_ix (ixT K) (pv 0) pe_int (fun _ _ => rfl)) pa_nil)) pe_int) (pa_cons (pe_ix (ixT K) (pv 0) pe_int (fun _ _ => rfl)) pa_nil))))))) pss_nil)
    (pss_one (ps_ret (pv 0)))), ?_⟩
  have LE := dl_le S H
  cases st with
  | lt x U s0 =>
    obtain ⟨p, u1, u2, u3, u4, rfl, hp', d1, d2, d3, d4⟩ := dp_fou dv
    cases dp_str d1
    cases dp_str d2
    obtain ⟨a, rfl, ha⟩ := dp_ruT d3
    walk_at "r"
    refine a_ixT (v := .str "let") (ex_st hp' LE) (atI_nat (j := 0) rfl) ?_
    walk_at "r"
    refine ite2 (fun y => ?_) (fun y => absurd (show decide (("let" : Str) = "let") = true from by decide) y)
    walk_at "r"
    refine a_ixT (v := .str x) (ex_st hp' LE) (atI_nat (j := 1) rfl) ?_
    walk_at "r"
    refine a_ixT (v := .ref a) (ex_st hp' LE) (atI_nat (j := 2) rfl) ?_
    walk_at "r"
    refine a_lenT (ex_st ha LE) ?_
    walk_at "r"
    rw [tv_len]
    refine a_ixT (v := u4) (ex_st hp' LE) (atI_nat (j := 3) rfl) ?_
    walk_at "r"
    refine new_tup (by simp) fun t h2 n2 e2 f2 => ?_
    exact q _ h2 e2 (.tup (SqT.of (dl_at (al.nin n2) f2)) (.cons (.str _) (.cons (.str _) (.cons (.int _) (.cons (dp_ex (dl_ex e2) d4) .nil)))))
  | put x j s0 =>
    have dv2 := dv
    obtain ⟨p, u1, u2, u3, rfl, hp', d1, d2, d3⟩ := dp_thr dv
    cases dp_str d1
    walk_at "r"
    refine a_ixT (v := .str "put") (ex_st hp' LE) (atI_nat (j := 0) rfl) ?_
    walk_at "r"
    refine ite2 (fun y => absurd (show decide (("put" : Str) = "let") = true from y) (by decide)) (fun y => ?_)
    walk_at "r"
    exact q _ H (Ex.refl _) dv2
  | call f0 ss0 =>
    have dv2 := dv
    obtain ⟨p, u1, u2, u3, rfl, hp', d1, d2, d3⟩ := dp_thr dv
    cases dp_str d1
    walk_at "r"
    refine a_ixT (v := .str "call") (ex_st hp' LE) (atI_nat (j := 0) rfl) ?_
    walk_at "r"
    refine ite2 (fun y => absurd (show decide (("call" : Str) = "let") = true from y) (by decide)) (fun y => ?_)
    walk_at "r"
    exact q _ H (Ex.refl _) dv2
def pSkt (K : PySem.W.Frag) : Sp := fun vs H Q _ => ∃ p fs ss, vs = [.ref p] ∧ Dp K H (.ref p) (.list [.list (List.map tfD fs), .list (List.map stD ss)]) ∧ fs.length ≤ 1000 ∧ ss.length ≤ 1000 ∧ (∀ f ∈ fs, f.p.length ≤ 1000 ∧ f.b.length ≤ 1000) ∧
  ∀ p' H1, Ex H H1 → Dp K H1 (.ref p') (skL fs ss) → Q (.ref p') H1
theorem ok__law_sketch (T : Tx K mg) : FnOk P w K mg base CX0 2 T.a__law_sketch T.e__law_sketch p__law_sketch (pSkt K) := by
  refine T.d__law_sketch.F.ok sc__law_sketch (fun vs H Q E h => ?_) (fun cdv A outer s H vs Q E hr h => ?_)
  · obtain ⟨p, fs, ss, rfl, _⟩ := h
    rfl
  obtain ⟨p, fs, ss, rfl, hp, lfs, lss, lfp, q⟩ := h
  have hu := hu_of hr
  refine ⟨_, (pss_cons (ps_set (i := 1) sc__law_sketch.nd rfl (.inl rfl) (pe_lst pa_nil))
    (pss_cons (ps_for PassesOwn.never rfl (plK K (pe_ix (ixL K) (pv 0) pe_int (fun _ _ => rfl))) (pg_name (i := 2) sc__law_sketch.nd rfl (.inl rfl)) (pss_one (ps_expr (pe_bm PySem.F.plainAttrs_list PySem.F.slot_list_append PySem.F.type_list_append mt_append (pv 1) (pa_cons (pe_lst (pa_cons (pe_ix (ixL K) (pv 2) pe_int (fun _ _ => rfl)) (pa_cons (pe_lc (own := [("x", 4), ("T", 5)]) (g := gTup K 2 (gCons (gName 4) (gCons (gName 5) (gNil)))) rfl sc__law_sketch.nd  (plK K (pe_ix (ixL K) (pv 2) pe_int (fun _ _ => rfl))) (blkOk_by (own := [("x", 4), ("T", 5)]) (N := n__law_sketch) (sc := defScope s__law_sketch) (by decide +kernel)) (fun _ _ _ _ _ => (pg_tup (by rfl) (pgs_cons (pg_name (i := 4) sc__law_sketch.nd rfl (Or.inl rfl)) (pgs_cons (pg_name (i := 5) sc__law_sketch.nd rfl (Or.inl rfl)) pgs_nil)))) (fun _ _ _ _ _ => pts_nil) (fun _ _ _ _ _ => (pe_tup (pa_cons (pv 4) (pa_cons (pe_op op_sub (pe_callB (lenK K) (by rfl) T.b_len PySem.boot_len (pa_cons (pv 5) pa_nil)) pe_int) pa_nil))))) (pa_cons (pe_lc (own := [("st", 3)]) (g := gName 3) rfl sc__law_sketch.nd  (plK K (pe_ix (ixL K) (pv 2) pe_int (fun _ _ => rfl))) (blkOk_by (own := [("st", 3)]) (N := n__law_sketch) (sc := defScope s__law_sketch) (by decide +kernel)) (fun _ _ _ _ _ => (pg_name (i := 3) sc__law_sketch.nd rfl (Or.inl rfl))) (fun _ _ _ _ _ => pts_nil) (fun _ _ _ _ _ => (pe_call (ok__law_depth T) (hr.mono (by omega)) (by rfl) T.d__law_depth.m T.d__law_depth.F.kp T.d__law_depth.b .nil pass0 (pa_cons (pv 3) pa_nil)))) pa_nil)))) pa_nil)))))
    (pss_one (ps_ret (pe_lst (pa_cons (pv 1) (pa_cons (pe_lc (own := [("st", 3)]) (g := gName 3) rfl sc__law_sketch.nd  (plK K (pe_ix (ixL K) (pv 0) pe_int (fun _ _ => rfl))) (blkOk_by (own := [("st", 3)]) (N := n__law_sketch) (sc := defScope s__law_sketch) (by decide +kernel)) (fun _ _ _ _ _ => (pg_name (i := 3) sc__law_sketch.nd rfl (Or.inl rfl))) (fun _ _ _ _ _ => pts_nil) (fun _ _ _ _ _ => (pe_call (ok__law_depth T) (hr.mono (by omega)) (by rfl) T.d__law_depth.m T.d__law_depth.F.kp T.d__law_depth.b .nil pass0 (pa_cons (pv 3) pa_nil)))) pa_nil))))))), ?_⟩
  obtain ⟨_, u1, u2, e, hp2, d1, d2⟩ := dp_l2 hp
  cases e
  obtain ⟨pf, xs, rfl, hf, df⟩ := dp_lst d1
  obtain ⟨pb, ys, rfl, hb, db⟩ := dp_lst d2
  have lx : xs.length = fs.length := by rw [dpa_len df, List.length_map]
  have ly : ys.length = ss.length := by rw [dpa_len db, List.length_map]
  walk_at "r"
  refine new_lst (xs := []) (by simp) fun l H2 n2 e2 f2 => ?_
  walk_at "r"
  refine a_ixL (v := .ref pf) (ex_sl hp2 e2) (atI_nat (j := 0) rfl) ?_
  walk_at "r"
  refine r_L (ex_sl hf e2) ?_
  refine lp_list (xs := xs) (fun i σ h => (∃ x2 x3 x4 x5, σ = [some (.ref p), some (.ref l), x2, x3, x4, x5]) ∧ Ex H (dl [l] h) ∧ ∃ acc, h l = some (.lst acc) ∧ DpAll K (dl [l] h) acc (List.map skf (fs.take i))) ⟨⟨_, _, _, _, rfl⟩, new_dl n2 e2, [], f2, .nil⟩ (fun i σ h _ g => ex_sl (ex_sl hf g.2.1) (dl_le _ _)) ?_ ?_
  · rintro i v σ h hi ⟨⟨x2, x3, x4, x5, rfl⟩, X, acc, fl, D⟩
    obtain ⟨dd, hdd, dv⟩ := dpa_at df hi
    rw [List.getElem?_map] at hdd
    cases hg : fs[i]? with
    | none => rw [hg] at hdd; cases hdd
    | some g =>
    rw [hg] at hdd
    cases hdd
    have hi2 := at_lt hg
    obtain ⟨pg, w1, w2, w3, rfl, hpg, g1, g2, g3⟩ := dp_l3 dv
    cases dp_str g1
    obtain ⟨pp, pxs, rfl, hpp, dpp⟩ := dp_lst g2
    obtain ⟨pc, pcs, rfl, hpc, dpc⟩ := dp_lst g3
    have lpp : pxs.length = g.p.length := by rw [dpa_len dpp, List.length_map]
    have lpc : pcs.length = g.b.length := by rw [dpa_len dpc, List.length_map]
    have go := lfp g (List.mem_of_getElem? hg)
    have la : acc.length = i := by rw [dpa_len D, List.length_map, List.length_take]; omega
    have XL := X.trans (dl_le _ _)
    walk_at "r"
    refine ⟨a_ty fl, ?_⟩
    walk_at "r"
    refine a_ixL (v := .str g.n) (ex_sl hpg XL) (atI_nat (j := 0) rfl) ?_
    walk_at "r"
    refine a_ixL (v := .ref pp) (ex_sl hpg XL) (atI_nat (j := 1) rfl) ?_
    refine c_L (ex_sl hpp XL) ?_
    refine cp_list (xs := pxs) (fun l2 k h' => Ex h h' ∧ ∃ acc, h' l2 = some (.lst acc) ∧ DpAll K (dl [l, l2] h') acc ((g.p.take k).map skp)) (fun l2 n => ⟨Ex.new n, [], upd_same, .nil⟩) (fun l2 k h' _ _ z => ex_sl (ex_sl hpp XL) z.1) ?_ ?_
    · rintro l2 k x h' nl hk ⟨e1, acc2, f1, D1⟩
      obtain ⟨d0, hd, dx⟩ := dpa_at dpp hk
      rw [List.getElem?_map] at hd
      cases hq : g.p[k]? with
      | none => rw [hq] at hd; cases hd
      | some qq =>
      rw [hq] at hd
      cases hd
      obtain ⟨p2, a2, rfl, hp2', ha2⟩ := dp_pD dx
      have hk2 := at_lt hq
      have la2 := dpa_len D1
      rw [List.length_map, List.length_take] at la2
      have XL' := XL.trans e1
      refine w_gtup (xs := [.str qq.1, .ref a2]) (ex_st hp2' XL') rfl ?_
      walk_at "r"
      refine ⟨rfl, ?_⟩
      walk_at "r"
      refine a_lenT (ex_st ha2 XL') ?_
      walk_at "r"
      refine new_tup (by simp) fun t h2 n2 e2 f2 => ?_
      rw [tv_len] at f2
      have nlt : l ≠ t := ne_old (e1 _ _ fl) n2
      have l2t : l2 ≠ t := ne_old f1 n2
      refine ⟨acc2, e2 _ _ f1, sz_lt (by omega), (e1.trans e2).mut nl, _, upd_same, ?_⟩
      rw [dl_upd (by simp), take_snoc hq, List.map_append]
      exact dpa_snoc (dpa_ex (dl_ex e2) D1) (.tup (SqT.of (dl_at (by simp; exact ⟨nlt.symm, l2t.symm⟩) f2)) (.cons (.str _) (.cons (.int _) .nil)))
    rintro l2 h2 nl2 ⟨e2', acc2, f1, D1⟩
    rw [lpp, List.take_length] at D1
    have nll : l ≠ l2 := ne_old fl nl2
    walk_at "r"
    refine a_ixL (v := .ref pc) (ex_sl hpg (XL.trans e2')) (atI_nat (j := 2) rfl) ?_
    refine c_L (ex_sl hpc (XL.trans e2')) ?_
    have al2 : Al [l] h2 := (Al.nil.cons fl).ex e2'
    refine cp_list (xs := pcs) (fun l3 k h' => Ex h2 h' ∧ ∃ acc, h' l3 = some (.lst acc) ∧ DpAll K (dl [l, l3] h') acc ((g.b.take k).map sks)) (fun l3 n => ⟨Ex.new n, [], upd_same, .nil⟩) (fun l3 k h' _ _ z => ex_sl (ex_sl hpc (XL.trans e2')) z.1) ?_ ?_
    · rintro l3 k x h' nl hk ⟨e1, acc3, f3, D3⟩
      obtain ⟨d0, hd, dx⟩ := dpa_at dpc hk
      rw [List.getElem?_map] at hd
      cases hs : g.b[k]? with
      | none => rw [hs] at hd; cases hd
      | some st =>
      rw [hs] at hd
      cases hd
      have hk2 := at_lt hs
      have la3 := dpa_len D3
      rw [List.length_map, List.length_take] at la3
      have XD2 : Ex H (dl [l, l3] h') := fun b o z => by
        have z1 := (X.trans (dl_ex (e2'.trans e1))) b o z
        by_cases hb : b ∈ [l]
        · rw [dl_in hb] at z1
          cases z1
        · rw [dl_nin hb] at z1
          have z2 : b ≠ l3 := ne_of_none ((XL.trans e2') b o z) nl
          have z3 : b ≠ l := fun c => hb (by rw [c]; simp)
          rw [dl_nin (by simp; exact ⟨z3, z2⟩)]
          exact z1
      walk_at "r"
      refine ⟨rfl, ?_⟩
      walk_at "r"
      refine ⟨[l, l3], x, st, rfl, (Al.nil.cons f3).cons (e1 _ _ (e2' _ _ fl)), dp_ex XD2 dx, fun v' h4 e4 d4 => ?_⟩
      refine ⟨acc3, e4 _ _ f3, sz_lt (by omega), (e1.trans e4).mut nl, _, upd_same, ?_⟩
      rw [dl_upd (by simp), take_snoc hs, List.map_append]
      exact dpa_snoc (dpa_ex (dl_ex e4) D3) d4
    rintro l3 h3 nl3 ⟨e3, acc3, fl3, D3⟩
    rw [lpc, List.take_length] at D3
    walk_at "r"
    refine new_lst (xs := [.str g.n, .ref l2, .ref l3]) (by simp) fun l4 h4 n4 e4 f4 => ?_
    walk_at "r"
    have E4 := e2'.trans (e3.trans e4)
    refine a_app (E4 _ _ fl) (by omega) ?_
    have n4l : l4 ≠ l := (ne_old ((e2'.trans e3) _ _ fl) n4).symm
    refine ⟨⟨_, _, _, _, rfl⟩, ?_, _, upd_same, ?_⟩
    · rw [dl_upd (by simp)]
      exact X.trans (dl_ex E4)
    · rw [dl_upd (by simp), take_snoc hg, List.map_append]
      refine dpa_snoc (dpa_ex (dl_ex E4) D) (Dp.inL f4 (by simpa using n4l) (.cons (.str _) (.cons ?_ (.cons ?_ .nil))))
      · exact Dp.inL ((e3.trans e4) _ _ f1) (by simpa using nll.symm) (dpa_ex ((dl_sub (T := [l, l2]) (by simp)).trans (dl_ex (e3.trans e4))) D1)
      · exact Dp.inL (e4 _ _ fl3) (by simpa using (ne_old (e2' _ _ fl) nl3).symm) (dpa_ex ((dl_sub (T := [l, l3]) (by simp)).trans (dl_ex e4)) D3)
  rintro σ h ⟨⟨x2, x3, x4, x5, rfl⟩, X, acc, fl, D⟩
  rw [lx, List.take_length] at D
  have XL := X.trans (dl_le _ _)
  have Dfs : Dp K h (.ref l) (.list (fs.map skf)) := .lst (SqL.of fl) (dpa_ex (dl_le _ _) D)
  walk_at "r"
  refine a_ixL (v := .ref pb) (ex_sl hp2 XL) (atI_nat (j := 1) rfl) ?_
  refine c_L (ex_sl hb XL) ?_
  refine cp_list (xs := ys) (fun l3 k h' => Ex h h' ∧ ∃ acc, h' l3 = some (.lst acc) ∧ DpAll K (dl [l3] h') acc ((ss.take k).map sks)) (fun l3 n => ⟨Ex.new n, [], upd_same, .nil⟩) (fun l3 k h' _ _ z => ex_sl (ex_sl hb XL) z.1) ?_ ?_
  · rintro l3 k x h' nl hk ⟨e1, acc3, f3, D3⟩
    obtain ⟨d0, hd, dx⟩ := dpa_at db hk
    rw [List.getElem?_map] at hd
    cases hs : ss[k]? with
    | none => rw [hs] at hd; cases hd
    | some st =>
    rw [hs] at hd
    cases hd
    have hk2 := at_lt hs
    have la3 := dpa_len D3
    rw [List.length_map, List.length_take] at la3
    have XD2 : Ex H (dl [l3] h') := fun b o z => by
      have z2 : b ≠ l3 := ne_of_none (XL b o z) nl
      rw [dl_nin (by simpa using z2)]
      exact (XL.trans e1) b o z
    walk_at "r"
    refine ⟨rfl, ?_⟩
    walk_at "r"
    refine ⟨[l3], x, st, rfl, Al.nil.cons f3, dp_ex XD2 dx, fun v' h4 e4 d4 => ?_⟩
    refine ⟨acc3, e4 _ _ f3, sz_lt (by omega), (e1.trans e4).mut nl, _, upd_same, ?_⟩
    rw [dl_upd (by simp), take_snoc hs, List.map_append]
    exact dpa_snoc (dpa_ex (dl_ex e4) D3) d4
  rintro l3 h3 nl3 ⟨e3, acc3, fl3, D3⟩
  rw [ly, List.take_length] at D3
  walk_at "r"
  refine new_lst (xs := [.ref l, .ref l3]) (by simp) fun l4 h4 n4 e4 f4 => ?_
  exact q l4 h4 (XL.trans (e3.trans e4)) (.lst (SqL.of f4) (.cons (dp_ex (e3.trans e4) Dfs) (.cons (.lst (SqL.of (e4 _ _ fl3)) (dpa_ex ((dl_le _ _).trans e4) D3)) .nil)))
end
section
variable {P : Program} {w : World} {K : PySem.W.Frag} {mg : Str → Option Value} {base : Heap}
open TL
def cntD (l : Ln) : Nat := (l.filter digB).length
theorem cntD_app (a b : Ln) : cntD (a ++ b) = cntD a + cntD b := by
  unfold cntD
  rw [List.filter_append, List.length_append]
theorem cntD_sub {a b : Ln} (h : a.Sublist b) : cntD a ≤ cntD b := (h.filter _).length_le
theorem cntD_td (l : Ln) (n : Nat) : cntD (l.take n) + cntD (l.drop n) = cntD l := by rw [← cntD_app, List.take_append_drop]
def chSigns : List Str := ["a", "*", "&", " ", "\n", "0", "rw", "r ", "-", "(", ")", ", ", " = ", " : ", "null", "end\n", "  ", "def a()\n", "7", "="]
theorem chs_ok : ∀ s ∈ chSigns, (tl s).length ≤ 8 ∧ cntD (tl s) ≤ 1 := by decide +kernel
theorem catL_ok {a b : Str} (h : (tl a).length + (tl b).length ≤ 60000) : a.length + b.length ≤ sizeLine := by
  rw [len_tl, len_tl]
  exact lt_line (by omega)
def pCh : Sp := fun vs H Q _ => ∃ b r x, vs = [.ref b, .str x] ∧ Bx H b r ∧ (tl x).length ≤ 40000 ∧
  ∀ y H', Ks [b] H H' → Bx H' b r → (tl y).length ≤ (tl x).length + 8 → cntD (tl y) ≤ cntD (tl x) + 1 → Q (.str y) H'
theorem ok__law_changed (T : Tx K mg) : FnOk P w K mg base CX0 2 T.a__law_changed T.e__law_changed p__law_changed pCh := by
  refine T.d__law_changed.F.ok sc__law_changed (fun vs H Q E h => ?_) (fun cdv A outer s H vs Q E hr h => ?_)
  · obtain ⟨b, r, x, rfl, _⟩ := h
    rfl
  obtain ⟨b, r, x, rfl, bx, hl, q⟩ := h
  refine ⟨_, (pss_cons (ps_set (i := 2) sc__law_changed.nd rfl (.inl rfl) (pe_op op_mod (pe_callTy k_int (by rfl) T.b_int (by decide +kernel) (pa_cons (pe_call (ok__law_draw T) (hr.mono (by omega)) (by rfl) T.d__law_draw.m T.d__law_draw.F.kp T.d__law_draw.b .nil pass0 (pa_cons (pv 0) (pa_cons pe_int pa_nil))) pa_nil)) (pe_op op_add (pe_callB k_lenS (by rfl) T.b_len PySem.boot_len (pa_cons (pv 1) pa_nil)) pe_int)))
    (pss_cons (ps_set (i := 3) sc__law_changed.nd rfl (.inl rfl) (pe_lst (pa_cons pe_str (pa_cons pe_str (pa_cons pe_str (pa_cons pe_str (pa_cons pe_str (pa_cons pe_str (pa_cons pe_str (pa_cons pe_str (pa_cons pe_str (pa_cons pe_str (pa_cons pe_str (pa_cons pe_str (pa_cons pe_str (pa_cons pe_str (pa_cons pe_str (pa_cons pe_str (pa_cons pe_str (pa_cons pe_str (pa_cons pe_str (pa_cons pe_str pa_nil))))))))))))))))))))))
    (pss_cons (ps_set (i := 4) sc__law_changed.nd rfl (.inl rfl) (pe_ix (ixL K) (pv 3) (pe_call (ok__law_draw T) (hr.mono (by omega)) (by rfl) T.d__law_draw.m T.d__law_draw.F.kp T.d__law_draw.b .nil pass0 (pa_cons (pv 0) (pa_cons pe_int pa_nil))) (fun _ _ => rfl)))
    (pss_cons (ps_set (i := 5) sc__law_changed.nd rfl (.inl rfl) (pe_call (ok__law_draw T) (hr.mono (by omega)) (by rfl) T.d__law_draw.m T.d__law_draw.F.kp T.d__law_draw.b .nil pass0 (pa_cons (pv 0) (pa_cons pe_int pa_nil))))
    (pss_cons (ps_if (pt_cmpR op_eq (pv 5) pe_int (nomark _)) (pss_one (ps_ret (pe_op op_add_str (pe_op op_add_str (pe_slice sl_str (pv 1) po_none (po_some (pv 2))) (pv 4)) (pe_slice sl_str (pv 1) (po_some (pv 2)) po_none)))) pss_nil)
    (pss_cons (ps_if (pt_cmpR op_eq (pv 5) pe_int (nomark _)) (pss_one (ps_ret (pe_op op_add_str (pe_slice sl_str (pv 1) po_none (po_some (pv 2))) (pe_slice sl_str (pv 1) (po_some (pe_op op_add (pv 2) pe_int)) po_none)))) pss_nil)
    (pss_one (ps_ret (pe_op op_add_str (pe_op op_add_str (pe_slice sl_str (pv 1) po_none (po_some (pv 2))) (pv 4)) (pe_slice sl_str (pv 1) (po_some (pe_op op_add (pv 2) pe_int)) po_none)))))))))), ?_⟩
  have hx := len_tl x
  walk_at "r"
  refine ⟨b, r, 840, rfl, bx, by omega, fun v H1 v0 vl k1 b1 => ?_⟩
  walk_at "r"
  refine a_lenS (by omega) ?_
  walk_at "r"
  refine ⟨v, _, rfl, rfl, by omega, ?_⟩
  obtain ⟨n, hn, hnl⟩ : ∃ n : Nat, v % ((x.length : Int) + 1) = (n : Int) ∧ n ≤ (tl x).length := by
    have h1 := Int.emod_nonneg v (show (x.length : Int) + 1 ≠ 0 by omega)
    have h2 := Int.emod_lt_of_pos v (show (0 : Int) < (x.length : Int) + 1 by omega)
    exact ⟨(v % ((x.length : Int) + 1)).toNat, by omega, by omega⟩
  show gName 2 (V.int (v % ((x.length : Int) + 1))) _ _ _
  rw [hn]
  walk_at "r"
  refine new_lst (xs := chSigns.map V.str) (by simp [chSigns]) fun l H2 n2 e2 f2 => ?_
  have b2 := bx_ex b1 e2
  have lb : l ≠ b := (bx_nb b1 n2).symm
  walk_at "r"
  refine ⟨b, r, 20, rfl, b2, by omega, fun v3 H3 v30 v3l k3 b3 => ?_⟩
  obtain ⟨j, rfl, hj⟩ : ∃ j : Nat, v3 = (j : Int) ∧ j < 20 := ⟨v3.toNat, by omega, by omega⟩
  have hj2 : j < chSigns.length := by simp [chSigns]; omega
  obtain ⟨sg, hsg⟩ : ∃ sg, chSigns[j]? = some sg := ⟨_, List.getElem?_eq_getElem hj2⟩
  obtain ⟨s1, s2⟩ := chs_ok sg (List.mem_of_getElem? hsg)
  refine a_ixL (v := .str sg) (SqL.of (k3 _ _ (by simpa using lb) f2)) (atI_nat (j := j) (by rw [List.getElem?_map, hsg]; rfl)) ?_
  walk_at "r"
  refine ⟨b, r, 3, rfl, b3, by omega, fun v4 H4 v40 v4l k4 b4 => ?_⟩
  have K4 : Ks [b] H H4 := (k1.trans (Ks.of e2)).trans (k3.trans k4)
  have hz : (tl x).length ≤ 50000 := by omega
  have td := cntD_td (tl x) n
  have tk1 := List.length_take_le n (tl x)
  have td1 : ((tl x).drop n).length = (tl x).length - n := List.length_drop
  have td2 : ((tl x).drop (n + 1)).length = (tl x).length - (n + 1) := List.length_drop
  have sub : cntD ((tl x).drop (n + 1)) ≤ cntD ((tl x).drop n) := cntD_sub (by rw [← List.drop_drop]; exact List.drop_sublist 1 _)
  have ltk : ((tl x).take n).length = n := by rw [List.length_take]; omega
  walk_at "r"
  refine ite2 (fun y => ?_) (fun y => ?_)
  · walk_at "r"
    refine a_cutS hz (cut_to x n) ?_
    walk_at "r"
    refine ⟨_, _, rfl, rfl, catL_ok (by rw [tl_mkS]; omega), ?_⟩
    walk_at "r"
    refine a_cutS hz (cut_from x n) ?_
    refine ⟨_, _, rfl, rfl, catL_ok (by rw [tl_append, List.length_append, tl_mkS, tl_mkS]; omega), ?_⟩
    refine q _ H4 K4 b4 ?_ ?_
    · rw [tl_append, tl_append, List.length_append, List.length_append, tl_mkS, tl_mkS]
      omega
    · rw [tl_append, tl_append, cntD_app, cntD_app, tl_mkS, tl_mkS]
      omega
  walk_at "r"
  have c1 : cutS x (some ((n : Int) + 1)) none = mkS ((tl x).drop (n + 1)) := by
    rw [show ((n : Int) + 1) = ((n + 1 : Nat) : Int) from by omega, cut_from]
  refine ite2 (fun y => ?_) (fun y => ?_)
  · walk_at "r"
    refine a_cutS hz (cut_to x n) ?_
    walk_at "r"
    refine a_cutS hz c1 ?_
    refine ⟨_, _, rfl, rfl, catL_ok (by rw [tl_mkS, tl_mkS]; omega), ?_⟩
    refine q _ H4 K4 b4 ?_ ?_
    · rw [tl_append, List.length_append, tl_mkS, tl_mkS]
      omega
    · rw [tl_append, cntD_app, tl_mkS, tl_mkS]
      omega
  walk_at "r"
  refine a_cutS hz (cut_to x n) ?_
  walk_at "r"
  refine ⟨_, _, rfl, rfl, catL_ok (by rw [tl_mkS]; omega), ?_⟩
  walk_at "r"
  refine a_cutS hz c1 ?_
  refine ⟨_, _, rfl, rfl, catL_ok (by rw [tl_append, List.length_append, tl_mkS, tl_mkS]; omega), ?_⟩
  refine q _ H4 K4 b4 ?_ ?_
  · rw [tl_append, tl_append, List.length_append, List.length_append, tl_mkS, tl_mkS]
    omega
  · rw [tl_append, tl_append, cntD_app, cntD_app, tl_mkS, tl_mkS]
    omega
end
section
variable {P : Program} {w : World} {K : PySem.W.Frag} {mg : Str → Option Value} {base : Heap}
open TL
theorem cnt_le (l : Ln) : cntD l ≤ l.length := List.length_filter_le _ _
theorem cnt0 {l : Ln} (h : ∀ c ∈ l, ¬ (48 ≤ c ∧ c ≤ 57)) : cntD l = 0 := by
  unfold cntD
  rw [List.length_eq_zero_iff, List.filter_eq_nil_iff]
  intro c m z
  exact h c m ((digB_iff c).mp z)
theorem cnt_nm {x : Str} (h : nmO x) : cntD (tl x) = 0 := cnt0 fun c m => by
  have := nm_c h m
  omega
theorem cnt_pl {x : Str} (h : nmO x) (k : Nat) : cntD (plX x k) = 0 := cnt0 fun c m => by
  have := pl_c h m
  omega
theorem cnt_sr {s : Src} (h : sO s) : cntD (srX s) ≤ 4 := by
  cases s with
  | num n =>
    have h1 : 0 ≤ n ∧ n ≤ 1000 := h
    exact Nat.le_trans (cnt_le _) (num_len4 (by omega))
  | null =>
    rw [show cntD (srX .null) = 0 from by decide +kernel]
    decide
  | val x k => rw [show cntD (srX (.val x k)) = 0 from cnt_pl h.1 k]; omega
  | adr x k =>
    have e : cntD (srX (.adr x k)) = 0 := cnt0 fun c m => by
      rcases List.mem_cons.mp m with rfl | m
      · decide
      · have := pl_c h.1 m
        omega
    omega
theorem cnt_join {m : Nat} : ∀ {ls : List Ln}, (∀ l ∈ ls, cntD l ≤ m) → cntD (joinL (tl ", ") ls) ≤ m * ls.length
  | [], _ => Nat.zero_le _
  | [p], h => by
    show cntD p ≤ m * 1
    have := h p (List.mem_cons_self ..)
    omega
  | p :: q :: r, h => by
    show cntD (p ++ (tl ", " ++ joinL (tl ", ") (q :: r))) ≤ m * (r.length + 1 + 1)
    rw [cntD_app, cntD_app, show cntD (tl ", ") = 0 from by decide +kernel]
    have h1 := h p (List.mem_cons_self ..)
    have h2 := cnt_join (ls := q :: r) fun l ml => h l (List.mem_cons_of_mem _ ml)
    have h3 : m * (q :: r).length = m * (r.length + 1) := rfl
    have h4 : m * (r.length + 1 + 1) = m * (r.length + 1) + m := Nat.mul_succ _ _
    omega
theorem cnt_dc {sk : Bool} {q : Str × List R} (h : nmO q.1) (t : tyO q.2) : cntD (dcX sk q) ≤ 18 := by
  show cntD (tl q.1 ++ (tl " : " ++ kdX sk q.2)) ≤ 18
  rw [cntD_app, cntD_app, cnt_nm h, show cntD (tl " : ") = 0 from by decide +kernel]
  have h1 := cnt_le (kdX sk q.2)
  have h2 := kd_len (sk := sk) t
  omega
theorem cnt_st {sk : Bool} {s : Stm} (o : stO s) : cntD (stX sk s) ≤ 22 := by
  cases s with
  | lt x T s =>
    obtain ⟨o1, o2, o3⟩ := o
    show cntD (tl "let " ++ (dcX sk (x, T) ++ (tl " = " ++ srX s))) ≤ 22
    rw [cntD_app, cntD_app, cntD_app, show cntD (tl "let ") = 0 from by decide +kernel, show cntD (tl " = ") = 0 from by decide +kernel]
    have h1 := cnt_dc (sk := sk) (q := (x, T)) o1 o2
    have h2 := cnt_sr o3
    omega
  | put x k s =>
    obtain ⟨o1, o2, o3⟩ := o
    show cntD (tl "put " ++ (plX x k ++ (tl " = " ++ srX s))) ≤ 22
    rw [cntD_app, cntD_app, cntD_app, show cntD (tl "put ") = 0 from by decide +kernel, show cntD (tl " = ") = 0 from by decide +kernel, cnt_pl o1]
    have h2 := cnt_sr o3
    omega
  | call f us =>
    obtain ⟨o1, o2, o3⟩ := o
    show cntD (tl "call " ++ (tl f ++ ([40] ++ (joinL (tl ", ") (us.map srX) ++ [41])))) ≤ 22
    rw [cntD_app, cntD_app, cntD_app, cntD_app, show cntD (tl "call ") = 0 from by decide +kernel, cnt_nm o1, show cntD [40] = 0 from by decide +kernel, show cntD [41] = 0 from by decide +kernel]
    have h2 := cnt_join (m := 4) (ls := us.map srX) fun l ml => by
      obtain ⟨u, mu, rfl⟩ := List.mem_map.mp ml
      exact cnt_sr (o3 u mu)
    rw [List.length_map] at h2
    omega
theorem cnt_hd {sk : Bool} {f : TF} (o : FOk f) : cntD (hdX sk f) ≤ 72 := by
  show cntD (tl "def " ++ (tl f.n ++ ([40] ++ (joinL (tl ", ") (f.p.map (dcX sk)) ++ [41])))) ≤ 72
  rw [cntD_app, cntD_app, cntD_app, cntD_app, show cntD (tl "def ") = 0 from by decide +kernel, cnt_nm o.n, show cntD [40] = 0 from by decide +kernel, show cntD [41] = 0 from by decide +kernel]
  have h2 := cnt_join (m := 18) (ls := f.p.map (dcX sk)) fun l ml => by
    obtain ⟨u, mu, rfl⟩ := List.mem_map.mp ml
    exact cnt_dc (o.po u mu).1 (o.po u mu).2
  rw [List.length_map] at h2
  have := o.p4
  omega
def cntT (ls : List Ln) : Nat := cntD (ls.flatMap (· ++ [10]))
theorem cntT_app (a b : List Ln) : cntT (a ++ b) = cntT a + cntT b := by
  unfold cntT
  rw [List.flatMap_append, cntD_app]
theorem cntT_cons (l : Ln) (a : List Ln) : cntT (l :: a) = cntD l + cntT a := by
  unfold cntT
  rw [List.flatMap_cons, cntD_app, cntD_app, show cntD [10] = 0 from by decide +kernel]
  rfl
theorem cntT_le {m : Nat} : ∀ {ls : List Ln}, (∀ l ∈ ls, cntD l ≤ m) → cntT ls ≤ m * ls.length
  | [], _ => Nat.zero_le _
  | l :: ls, h => by
    rw [cntT_cons]
    have h1 := h l (List.mem_cons_self ..)
    have h2 := cntT_le (ls := ls) fun x mx => h x (List.mem_cons_of_mem _ mx)
    have h3 : m * (l :: ls).length = m * ls.length + m := Nat.mul_succ _ _
    omega
theorem lenT_le {m : Nat} : ∀ {ls : List Ln}, (∀ l ∈ ls, l.length ≤ m) → (ls.flatMap (· ++ [10])).length ≤ (m + 1) * ls.length
  | [], _ => Nat.zero_le _
  | l :: ls, h => by
    rw [List.flatMap_cons, List.length_append, List.length_append]
    have h1 := h l (List.mem_cons_self ..)
    have h2 := lenT_le (ls := ls) fun x mx => h x (List.mem_cons_of_mem _ mx)
    have h3 : (m + 1) * (l :: ls).length = (m + 1) * ls.length + (m + 1) := Nat.mul_succ _ _
    have h4 : [10].length = 1 := rfl
    omega
theorem fn_sz {sk : Bool} {f : TF} (o : FOk f) (b3 : f.b.length ≤ 3) : cntT (fnX sk f) ≤ 138 ∧ (fnX sk f).length ≤ 5 := by
  unfold fnX
  refine ⟨?_, ?_⟩
  · rw [cntT_app, cntT_cons, cntT_cons, show cntD (tl "end") = 0 from by decide +kernel, show cntT [] = 0 from rfl]
    have h1 := cnt_hd (sk := sk) o
    have h2 := cntT_le (m := 22) (ls := f.b.map fun s => tl "  " ++ stX sk s) fun l ml => by
      obtain ⟨u, mu, rfl⟩ := List.mem_map.mp ml
      rw [cntD_app, show cntD (tl "  ") = 0 from by decide +kernel, Nat.zero_add]
      exact cnt_st (o.bo u mu)
    rw [List.length_map] at h2
    omega
  · rw [List.length_append, List.length_cons, List.length_map]
    have : [tl "end"].length = 1 := rfl
    omega
theorem fns_sz {sk : Bool} : ∀ {fs : List TF}, (∀ f ∈ fs, FOk f ∧ f.b.length ≤ 3) → cntT (fs.flatMap (fnX sk)) ≤ 138 * fs.length ∧ (fs.flatMap (fnX sk)).length ≤ 5 * fs.length
  | [], _ => ⟨Nat.zero_le _, Nat.zero_le _⟩
  | f :: fs, h => by
    have h1 := h f (List.mem_cons_self ..)
    have h2 := fn_sz (sk := sk) h1.1 h1.2
    have h3 := fns_sz (sk := sk) (fs := fs) fun x mx => h x (List.mem_cons_of_mem _ mx)
    rw [List.flatMap_cons, cntT_app, List.length_append, List.length_cons]
    omega
theorem tx_sz {sk : Bool} {fs : List TF} {ss : List Stm} (ok : POk fs ss) (gz : GSz 5 fs ss) : (txX sk fs ss).length ≤ 3000 ∧ cntD (txX sk fs ss) ≤ 500 := by
  have h1 := fns_sz (sk := sk) (fs := fs) fun f m => ⟨ok.fo f m, (gz.fp f m).2⟩
  have hs : ss.length ≤ 5 := by have := gz.sl; omega
  have hf := gz.fl
  have hn : (lnX sk fs ss).length ≤ 15 := by
    unfold lnX
    rw [List.length_append, List.length_map]
    omega
  refine ⟨?_, ?_⟩
  · have h2 := lenT_le (m := 140) (ls := lnX sk fs ss) (ln_len ok)
    show ((lnX sk fs ss).flatMap (· ++ [10])).length ≤ 3000
    omega
  · show cntT (lnX sk fs ss) ≤ 500
    unfold lnX
    rw [cntT_app]
    have h2 := cntT_le (m := 22) (ls := ss.map (stX sk)) fun l ml => by
      obtain ⟨u, mu, rfl⟩ := List.mem_map.mp ml
      exact cnt_st (ok.so u mu)
    rw [List.length_map] at h2
    omega
def FR (s : Rs) : Prop := (∀ f ∈ s.fs, Fine 0 f.n ∧ (∀ d ∈ f.p, Fine 2 d) ∧ ∀ d ∈ f.b, Fine 4 d) ∧ (∀ d ∈ s.ss, Fine 4 d) ∧ (∀ q, s.hd = some q → Fine 0 (.str q.1) ∧ ∀ d ∈ q.2, Fine 2 d) ∧ ∀ d ∈ s.bd, Fine 4 d
theorem FR.step {nv : NV} {s s' : Rs} {l : Ln} (h : FR s) (e : stepL nv s l = some s') (hl : l.length ≤ 50000) : FR s' := by
  obtain ⟨h1, h2, h3, h4⟩ := h
  have snoc : ∀ {ds : List PyData} {d : PyData}, (∀ x ∈ ds, Fine 4 x) → Fine 4 d → ∀ x ∈ ds ++ [d], Fine 4 x := fun {ds d} a b x m => by
    rcases List.mem_append.mp m with m | m
    · exact a x m
    · rw [List.mem_singleton.mp m]
      exact b
  cases hd : s.hd with
  | some q =>
    rw [rs_in hd] at e
    obtain ⟨q1, q2⟩ := h3 q hd
    by_cases c : l = tl "end"
    · rw [if_pos c] at e
      cases e
      refine ⟨fun f m => ?_, h2, fun q z => (by cases z), fun d m => absurd m (by simp)⟩
      rcases List.mem_append.mp m with m | m
      · exact h1 f m
      · rw [List.mem_singleton.mp m]
        exact ⟨q1, q2, h4⟩
    · rw [if_neg c] at e
      by_cases c2 : l.take 2 = tl "  "
      · rw [if_pos c2] at e
        cases hst : stL nv (l.drop 2) with
        | none => rw [hst] at e; cases e
        | some d =>
          rw [hst] at e
          cases e
          refine ⟨h1, h2, fun q' z => ?_, snoc h4 (st_fine hst (by rw [List.length_drop]; omega))⟩
          cases z
          exact ⟨q1, q2⟩
      · rw [if_neg c2] at e
        cases e
  | none =>
    rw [rs_out hd] at e
    cases hh : (if s.ss = [] then hdL nv l else none) with
    | some q =>
      rw [hh] at e
      cases e
      have hq : hdL nv l = some q := by
        by_cases c : s.ss = []
        · rw [if_pos c] at hh
          exact hh
        · rw [if_neg c] at hh
          cases hh
      obtain ⟨f1, _, f3⟩ := hd_fine hq hl
      refine ⟨h1, h2, fun q' z => ?_, fun d m => absurd m (by simp)⟩
      cases z
      exact ⟨f1, f3⟩
    | none =>
      rw [hh] at e
      cases hst : stL nv l with
      | none => rw [hst] at e; cases e
      | some d =>
        rw [hst] at e
        cases e
        exact ⟨h1, snoc h2 (st_fine hst hl), fun q z => (by cases z), fun d m => absurd m (by simp)⟩
theorem FR.run {nv : NV} : ∀ {ls : List Ln} {s s' : Rs} {k : Nat}, FR s → (∀ l ∈ ls, l.length ≤ 50000) → runL nv s k ls = .inr s' → FR s'
  | [], s, s', k, h, _, e => by
    cases e
    exact h
  | l :: ls, s, s', k, h, hl, e => by
    cases hs : stepL nv s l with
    | none =>
      rw [run_stop hs] at e
      cases e
    | some t =>
      rw [run_step hs] at e
      exact FR.run (h.step hs (hl l (List.mem_cons_self ..))) (fun x m => hl x (List.mem_cons_of_mem _ m)) e
theorem res_fine {nv : NV} {t : Ln} (hl : t.length ≤ 50000) : Fine 8 (resL nv t) := by
  have sub := spl_sub (S := [10]) (by simp) t.length t [] (Nat.le_refl _)
  obtain ⟨i, r, h⟩ := last_of (spl_ne (S := [10]) (by simp) t [])
  rw [h] at sub
  have err : ∀ (k : Nat) (w : Str), Fine 0 (.str w) → Fine 8 (.list [.int (k : Nat), .str w]) := fun k w fw => (fine_lst (n := 0) (fun d m => by
    rcases List.mem_cons.mp m with rfl | m
    · exact fine_int _
    · rw [List.mem_singleton.mp m]
      exact fw) (by simp)).mono (by decide)
  have lns : ∀ y ∈ lsOf i r, y.length ≤ 50000 := fun y my => by
    have m2 : y ∈ i ++ [r] := by
      unfold lsOf at my
      split at my
      · exact List.mem_append_left _ my
      · exact my
    have := (sub y m2).length_le
    simp only [List.nil_append] at this
    omega
  cases e : runL nv rs0 0 (lsOf i r) with
  | inl k =>
    rw [res_bad h e]
    exact err k _ (fine_w _ (by decide +kernel) (by decide +kernel))
  | inr s =>
    rw [res_ok h e]
    have fr : FR s := FR.run (s := rs0) ⟨fun f m => absurd m (by simp [rs0]), fun f m => absurd m (by simp [rs0]), fun q z => (by cases z), fun f m => absurd m (by simp [rs0])⟩ lns e
    split
    · exact err _ _ (fine_w _ (by decide +kernel) (by decide +kernel))
    · split
      · rename_i pd
        obtain ⟨f1, f2, _, _⟩ := fr
        have hp := pd
        unfold progD stsD at hp
        rw [Bool.and_eq_true, Bool.and_eq_true, Bool.and_eq_true, Bool.and_eq_true] at hp
        obtain ⟨⟨⟨p0, p1⟩, p2, _⟩, _⟩ := hp
        have p0 := of_decide_eq_true p0
        have p2 := of_decide_eq_true p2
        refine fine_lst (n := 7) (fun d m => ?_) (by simp)
        rcases List.mem_cons.mp m with rfl | m
        · refine fine_lst (n := 6) (fun d m => ?_) (by rw [List.length_map]; omega)
          obtain ⟨f, mf, rfl⟩ := List.mem_map.mp m
          obtain ⟨g1, g2, g3⟩ := f1 f mf
          have fo := List.all_eq_true.mp p1 f mf
          unfold fnD stsD at fo
          rw [Bool.and_eq_true, Bool.and_eq_true, Bool.and_eq_true, Bool.and_eq_true] at fo
          obtain ⟨⟨_, l1, _⟩, l2, _⟩ := fo
          have l1 := of_decide_eq_true l1
          have l2 := of_decide_eq_true l2
          refine fine_lst (n := 5) (fun d m => ?_) (by simp)
          rcases List.mem_cons.mp m with rfl | m
          · exact g1.mono (by decide)
          rcases List.mem_cons.mp m with rfl | m
          · exact (fine_lst (n := 2) g2 (by omega)).mono (by decide)
          · rw [List.mem_singleton.mp m]
            exact fine_lst (n := 4) g3 (by omega)
        · rw [List.mem_singleton.mp m]
          exact (fine_lst (n := 4) f2 (by omega)).mono (by decide)
      · exact err _ _ (fine_w _ (by decide +kernel) (by decide +kernel))
end
section
variable {P : Program} {w : World} {K : PySem.W.Frag} {mg : Str → Option Value} {base : Heap}
def spLaw (K : PySem.W.Frag) : Sp := fun vs H Q _ => ∃ (a : Addr) (ns : List Int), vs = [.ref a] ∧ SqL K H a (ns.map V.int) ∧ ns.length ≤ 63 ∧ ∀ H', Q (.bl true) H'
open TL
theorem passF {X : Cx} : Passes (L2.CX X.prog X.w) X (fun _ _ _ => False) := fun pins σ H s e s' I c => by
  obtain ⟨_, _, _, _, _, _, _, _, _, _, _, _, z⟩ := c
  exact z.elim
theorem pgY_t (fs : List TF) (ss : List Stm) : pgY true fs ss = skL fs ss := by
  unfold pgY
  rw [show fdY true = sfd from funext fdY_t, show stY true = sks from rfl, List.map_map]
  have : (fdat ∘ sfd) = skf := funext fun f => rfl
  rw [this]
theorem pgY_f (fs : List TF) (ss : List Stm) : pgY false fs ss = .list [.list (List.map tfD fs), .list (List.map stD ss)] := by
  unfold pgY
  rw [show fdY false = TF.fd from funext fdY_f, show stY false = stD from rfl, List.map_map]
  have : (fdat ∘ TF.fd) = tfD := funext fun f => rfl
  rw [this]
theorem res_nil : resL nvP [] = .list [.list [], .list []] := by
  have := res_ok (nv := nvP) (t := []) (i := []) (r := []) (s := rs0) (spl_nil _ _ _) rfl
  rw [this, if_neg (by rintro (h | h); exact h rfl; cases h), if_pos (by decide +kernel)]
  rfl
theorem ok_law {f : Addr} {fd : FuncData} (T : Tx K mg) (F : Fun K "law" "law" s_law f fd) : FnOk P w K mg base CX0 14 f fd ["script"] (spLaw K) := by
  refine F.ok sc_law (fun vs H Q E h => ?_) (fun cdv A outer s H vs Q E hr h => ?_)
  · obtain ⟨a, ns, rfl, _⟩ := h
    rfl
  obtain ⟨a, ns, rfl, hL, hz, q⟩ := h
  have hu := hu_of hr
  refine ⟨_, (pss_cons (ps_set (i := 1) sc_law.nd rfl (.inl rfl) (pe_lst (pa_cons (pe_call (ok__law_row T) (hr.mono (by omega)) (by rfl) T.d__law_row.m T.d__law_row.F.kp T.d__law_row.b .nil pass0 (pa_cons (pv 0) (pa_cons pe_int (pa_cons pe_int pa_nil)))) (pa_cons pe_int pa_nil))))
    (pss_cons (ps_for PassesOwn.never rfl (pi_range1 (by rfl) T.b_range (pa_cons pe_int pa_nil)) (pg_name (i := 2) sc_law.nd rfl (.inl rfl)) (pss_cons (ps_set (i := 3) sc_law.nd rfl (.inl rfl) (pe_call (ok__law_program T) (hr.mono (by omega)) (by rfl) T.d__law_program.m T.d__law_program.F.kp T.d__law_program.b .nil pass0 (pa_cons (pv 1) (pa_cons pe_int pa_nil))))
    (pss_cons (ps_if (pt_cmpR op_eq (pe_call (ok__law_draw T) (hr.mono (by omega)) (by rfl) T.d__law_draw.m T.d__law_draw.F.kp T.d__law_draw.b .nil pass0 (pa_cons (pv 1) (pa_cons pe_int pa_nil))) pe_int (nomark _)) (pss_one (ps_set (i := 3) sc_law.nd rfl (.inl rfl) (pe_call (ok__law_sketch T) (hr.mono (by omega)) (by rfl) T.d__law_sketch.m T.d__law_sketch.F.kp T.d__law_sketch.b .nil pass0 (pa_cons (pv 3) pa_nil)))) pss_nil)
    (pss_cons (ps_set (i := 4) sc_law.nd rfl (.inl rfl) (pe_call (ok__law_text T) (hr.mono (by omega)) (by rfl) T.d__law_text.m T.d__law_text.F.kp T.d__law_text.b .nil pass0 (pa_cons (pv 3) pa_nil)))
    (pss_cons (ps_if (PW.pt (pw_or (pt_cmpR op_ne (pe_call (ok_text_of T) (hr.mono (by omega)) (by rfl) T.d_text_of.m T.d_text_of.F.kp T.d_text_of.b .nil pass0 (pa_cons (pe_call (ok__law_made T) (hr.mono (by omega)) (by rfl) T.d__law_made.m T.d__law_made.F.kp T.d__law_made.b .nil passF (pa_cons (pv 3) pa_nil)) pa_nil)) (pv 4) (nomark _)) (pw_or1 (pt_cmpR (neDK K hr.units) (pe_call (ok__law_told T) (hr.mono (by omega)) (by rfl) T.d__law_told.m T.d__law_told.F.kp T.d__law_told.b .nil pass0 (pa_cons (pv 4) pa_nil)) (pe_lst (pa_cons (pe_lc (own := [("f", 7)]) (g := gName 7) rfl sc_law.nd  (plK K (pe_ix (ixL K) (pv 3) pe_int (fun _ _ => rfl))) (blkOk_by (own := [("f", 7)]) (N := n_law) (sc := defScope s_law) (by decide +kernel)) (fun _ _ _ _ _ => (pg_name (i := 7) sc_law.nd rfl (Or.inl rfl))) (fun _ _ _ _ _ => pts_nil) (fun _ _ _ _ _ => (pe_callTy (lstK K) (by rfl) T.b_list (by decide +kernel) (pa_cons (pv 7) pa_nil)))) (pa_cons (pe_ix (ixL K) (pv 3) pe_int (fun _ _ => rfl)) pa_nil))) (nomark _))))) (pss_one (ps_ret pe_bl)) pss_nil)
    (pss_one (ps_for PassesOwn.never rfl (pi_range1 (by rfl) T.b_range (pa_cons pe_int pa_nil)) (pg_name (i := 5) sc_law.nd rfl (.inl rfl)) (pss_cons (ps_set (i := 6) sc_law.nd rfl (.inl rfl) (pe_call (ok__law_changed T) (hr.mono (by omega)) (by rfl) T.d__law_changed.m T.d__law_changed.F.kp T.d__law_changed.b .nil pass0 (pa_cons (pv 1) (pa_cons (pv 4) pa_nil))))
    (pss_cons (ps_if (pt_cmpR (neDK K hr.units) (pe_call (ok__law_told T) (hr.mono (by omega)) (by rfl) T.d__law_told.m T.d__law_told.F.kp T.d__law_told.b .nil pass0 (pa_cons (pv 6) pa_nil)) (pe_call (ok__law_due T) (hr.mono (by omega)) (by rfl) T.d__law_due.m T.d__law_due.F.kp T.d__law_due.b .nil pass0 (pa_cons (pv 6) pa_nil)) (nomark _)) (pss_one (ps_ret pe_bl)) pss_nil)
    (pss_one (ps_if (pt_cmpR op_eq (pe_call (ok__law_draw T) (hr.mono (by omega)) (by rfl) T.d__law_draw.m T.d__law_draw.F.kp T.d__law_draw.b .nil pass0 (pa_cons (pv 1) (pa_cons pe_int pa_nil))) pe_int (nomark _)) (pss_one (ps_set (i := 4) sc_law.nd rfl (.inl rfl) (pv 6))) pss_nil)))))))))))
    (pss_one (ps_ret (pe_cmpR (eqDK K hr.units) (pe_call (ok__law_told T) (hr.mono (by omega)) (by rfl) T.d__law_told.m T.d__law_told.F.kp T.d__law_told.b .nil pass0 (pa_cons pe_str pa_nil)) (pe_lst (pa_cons (pe_lst pa_nil) (pa_cons (pe_lst pa_nil) pa_nil))) (nomark _)))))), ?_⟩
  walk_at "r"
  refine ⟨a, ns, 63, rfl, hL, by omega, by omega, fun r H1 rs n1 e1 f1 z1 => ?_⟩
  walk_at "r"
  refine new_lst (by simp) fun b H2 n0 e0 f0 => ?_
  have hb : Bx H2 b r := ⟨0, rs, f0, e0 _ _ f1, z1⟩
  walk_at "r"
  refine r_R1 (by omega) ?_
  refine lp_range (fun k σ h => (∃ x2 x3 x4 x5 x6 x7, σ = [some (.ref a), some (.ref b), x2, x3, x4, x5, x6, x7]) ∧ Bx h b r) ⟨⟨_, _, _, _, _, _, rfl⟩, hb⟩ ?_ ?_
  · rintro k0 σ h hk ⟨⟨x2, x3, x4, x5, x6, x7, rfl⟩, bh⟩
    walk_at "r"
    refine ⟨b, r, 5, rfl, bh, by omega, by omega, fun p fs ss h1 k1 b1 dp1 ok gz => ?_⟩
    walk_at "r"
    refine ⟨b, r, 3, rfl, b1, by omega, fun v h2 v0 v3 k2 b2 => ?_⟩
    have dp2 : Dp K h2 (.ref p) (.list [.list (List.map tfD fs), .list (List.map stD ss)]) := dp_ex ((dl_ks k2).trans (dl_le _ _)) dp1
    have hs5 : ss.length ≤ 5 := by have := gz.sl; omega
    have hfl := gz.fl
    walk_at "r"
    refine ite2 (fun y => ?_) (fun y => ?_)
    case' refine_1 =>
      walk_at "r"
      refine ⟨p, fs, ss, rfl, dp2, by omega, by omega, fun f m => ⟨by have := (ok.fo f m).p4; omega, by have := (ok.fo f m).b12; omega⟩, fun p' h3 e3 dp3 => ?_⟩
      walk_at "r"
      have b3 := bx_ex b2 e3
      obtain ⟨sk, dp⟩ : ∃ sk, Dp K h3 (.ref p') (pgY sk fs ss) := ⟨true, by rw [pgY_t]; exact dp3⟩
      clear dp3 e3
    case' refine_2 =>
      walk_at "r"
      have b3 := b2
      obtain ⟨sk, dp⟩ : ∃ sk, Dp K h2 (.ref p) (pgY sk fs ss) := ⟨false, by rw [pgY_f]; exact dp2⟩
      generalize h2 = h3, p = p' at b3 dp ⊢
    all_goals
      have hrd := res_rd (sk := sk) ok
      obtain ⟨sz1, sz2⟩ := tx_sz (sk := sk) ok gz
      have fin : Fine 8 (pgY sk fs ss) := by
        rw [← hrd]
        exact res_fine (by omega)
      obtain ⟨shp, eqv⟩ := fine_shp fin (by decide)
      refine ⟨p', fs, ss, sk, rfl, dp, ok, fun h4 e4 => ?_⟩
      walk_at "r"
      refine ⟨.ref p', fs.map (fdY sk), ss.map (stY sk), rfl, ⟨dp_ex e4 dp, fin.sm⟩, fun pd z h5 n5 e5 pg => ?_, fun npd => absurd (prog_Y (sk := sk) ok) (by rw [npd]; intro w; cases w)⟩
      refine ⟨z, fs, ss, sk, rfl, pg, ok, fun h6 e6 => ?_⟩
      walk_at "r"
      refine ite2 (fun w => absurd w (by simp)) (fun _ => ?_)
      walk_at "r"
      refine ⟨mkS (txX sk fs ss), rfl, by rw [tl_mkS]; omega, fun v7 h7 e7 d7 => ?_⟩
      rw [tl_mkS, hrd] at d7
      have E7 := e4.trans (e5.trans (e6.trans e7))
      have dp7 := dp_ex E7 dp
      have b7 := bx_ex b3 E7
      obtain ⟨_, u1, u2, e, hp2, d1, d2⟩ := dp_l2 dp7
      cases e
      obtain ⟨pf, xs, rfl, hf, df⟩ := dp_lst d1
      have lx : xs.length = fs.length := by rw [dpa_len df, List.length_map, List.length_map]
      walk_at "r"
      refine a_ixL (v := .ref pf) hp2 (atI_nat (j := 0) rfl) ?_
      refine c_L hf ?_
      refine cp_list (xs := xs) (fun l k hh => Ex h7 hh ∧ ∃ ws, hh l = some (.lst ws) ∧ DpAll K (dl [l] hh) ws (((fs.map (fdY sk)).map fdat).take k)) (fun l n => ⟨Ex.new n, [], upd_same, .nil⟩) (fun l k hh _ _ y => ex_sl hf y.1) ?_ ?_
      · rintro l k u hh nl hk ⟨Y, ws, fl, dw⟩
        obtain ⟨dd, hdd, du⟩ := dpa_at df hk
        have hdd0 := hdd
        rw [List.getElem?_map] at hdd
        cases hg : (fs.map (fdY sk))[k]? with
        | none => rw [hg] at hdd; cases hdd
        | some g =>
        rw [hg] at hdd
        cases hdd
        obtain ⟨pg2, w1, w2, w3, rfl, hpg, g1, g2, g3⟩ := dp_l3 du
        have lw := dpa_len dw
        rw [List.length_take, List.length_map, List.length_map] at lw
        walk_at "r"
        refine ⟨rfl, ?_⟩
        walk_at "r"
        refine a_lstL (ex_sl hpg Y) fun p8 h8 n8 e8 f8 => ?_
        have Z : Ex h7 (dl [l] h8) := ex_dl1 nl (Y.trans e8)
        have p8l : p8 ≠ l := (ne_old fl n8).symm
        refine ⟨ws, e8 _ _ fl, sz_lt (by omega), (Y.trans e8).mut nl, _, upd_same, ?_⟩
        rw [dl_upd (by simp), take_snoc hdd0]
        exact dpa_snoc (dpa_ex (dl_ex e8) dw) (Dp.inL f8 (by simpa using p8l) (.cons (dp_ex Z g1) (.cons (dp_ex Z g2) (.cons (dp_ex Z g3) .nil))))
      rintro l hh nl ⟨Y, ws, fl, dw⟩
      rw [lx, List.take_of_length_le (by rw [List.length_map, List.length_map]; exact Nat.le_refl _)] at dw
      walk_at "r"
      refine a_ixL (v := u2) (ex_sl hp2 Y) (atI_nat (j := 1) rfl) ?_
      walk_at "r"
      refine new_lst (xs := [.ref l, u2]) (by simp) fun p9 h9 n9 e9 f9 => ?_
      have E9 := Y.trans e9
      refine ⟨pgY sk fs ss, pgY sk fs ss, dp_ex E9 d7, .lst (SqL.of f9) (.cons (.lst (SqL.of (e9 _ _ fl)) (dpa_ex ((dl_le _ _).trans e9) dw)) (.cons (dp_ex E9 d2) .nil)), shp, shp, ?_⟩
      rw [eqv]
      walk_at "r"
      have b9 := bx_ex b7 E9
      refine r_R1 (by omega) ?_
      refine lp_range (fun j σ h => (∃ y x5 x6 x7, σ = [some (.ref a), some (.ref b), some (.int (0 + (k0 : Int))), some (.ref p'), some (.str y), x5, x6, x7] ∧ (tl y).length ≤ 3000 + 8 * j ∧ cntD (tl y) ≤ 500 + j) ∧ Bx h b r) ⟨⟨_, _, _, _, rfl, by rw [tl_mkS]; omega, by rw [tl_mkS]; omega⟩, b9⟩ ?_ ?_
      · rintro j σ h hj ⟨⟨y, x5, x6, x7, rfl, l1, c1⟩, bh⟩
        walk_at "r"
        refine ⟨b, r, y, rfl, bh, by omega, fun o h1 k1 b1 l2 c2 => ?_⟩
        walk_at "r"
        refine ⟨o, rfl, by omega, fun v2 h2 e2 d2 => ?_⟩
        walk_at "r"
        refine ⟨o, rfl, ⟨by omega, by show cntD (tl o) ≤ 600; omega⟩, fun v3 h3 e3 d3 => ?_⟩
        rw [← res_lp] at d3
        obtain ⟨sh2, eq2⟩ := fine_shp (res_fine (nv := nvP) (t := tl o) (by omega)) (by decide)
        refine ⟨_, _, dp_ex e3 d2, d3, sh2, sh2, ?_⟩
        rw [eq2]
        walk_at "r"
        have b3 := bx_ex b1 (e2.trans e3)
        refine ⟨b, r, 2, rfl, b3, by omega, fun v4 h4 v40 v42 k4 b4 => ?_⟩
        walk_at "r"
        refine ite2 (fun y2 => ?_) (fun y2 => ?_)
        · walk_at "r"
          exact ⟨⟨o, _, _, _, rfl, by omega, by omega⟩, b4⟩
        · walk_at "r"
          exact ⟨⟨y, _, _, _, rfl, by omega, by omega⟩, b4⟩
      · rintro σ h ⟨⟨y, x5, x6, x7, rfl, _⟩, bh⟩
        exact ⟨⟨_, _, _, _, _, _, rfl⟩, bh⟩
  · rintro σ h ⟨⟨x2, x3, x4, x5, x6, x7, rfl⟩, bh⟩
    walk_at "r"
    refine ⟨"", rfl, by decide +kernel, fun v h2 e2 dv => ?_⟩
    have en : tl "" = [] := by decide +kernel
    rw [en, res_nil] at dv
    walk_at "r"
    have fin : Fine 8 (.list [.list [], .list []]) := by
      rw [← res_nil]
      exact res_fine (by simp)
    obtain ⟨shp, eqv⟩ := fine_shp fin (by decide)
    refine new_lst (xs := []) (by simp) fun p3 h3 n3 e3 f3 => ?_
    walk_at "r"
    refine new_lst (xs := []) (by simp) fun p4 h4 n4 e4 f4 => ?_
    walk_at "r"
    refine new_lst (xs := [.ref p3, .ref p4]) (by simp) fun p5 h5 n5 e5 f5 => ?_
    refine ⟨.list [.list [], .list []], .list [.list [], .list []], dp_ex (e3.trans (e4.trans e5)) dv, .lst (SqL.of f5) (.cons (.lst (SqL.of (e5 _ _ (e4 _ _ f3))) .nil) (.cons (.lst (SqL.of (e5 _ _ f4)) .nil) .nil)), shp, shp, ?_⟩
    rw [eqv]
    exact q h5
end
section
variable {P : Program} {w : World} {K : PySem.W.Frag} {mg : Str → Option Value} {base : Heap}
/-- an own error is what a clause of its class catches -/
theorem own_caught {C : Addr} (q1 : PySem.W.subIn K (.ref C) (.type "BaseException") = some true) (q2 : PySem.W.isClsIn K C = true) (q3 : PySem.W.typeIn K (.ref C) = some (.type "type")) (q4 : PySem.W.subIn K (.ref C) (.ref C) = some true) : PySem.W.exmOne K (.ref C) (.ref C) = some true := by
  have q2' : (PySem.W.clsIn K C).isSome = true := q2
  unfold PySem.W.exmOne
  rw [if_pos (by rw [q1]; rfl)]
  show (if ((PySem.W.clsIn K C).isSome && PySem.W.typeIn K (.ref C) == some (.type "type")) = true then PySem.W.subIn K (.ref C) (.ref C) else none) = some true
  rw [if_pos (by rw [q2', q3]; rfl)]
  exact q4
end
theorem all_mk {l : PySem.W.OpenLaw} {w : World} {K : PySem.W.Frag} {h : Heap} {mg : Str → Option Value} {fa : Addr} (X : K.In h) (G : h.Ns mainGlobals mg) (hfa : mg "law" = some (.ref fa))
    {C_RightsError : Addr}
    {nm_RightsError qn_RightsError : Str} {N_RightsError : Addr} {bs_RightsError : List Value} {sn_RightsError : List Str} {sub_RightsError : List Value} {ab_RightsError : Bool} {col_RightsError : Option Bool} {dd_RightsError : Option Addr} {m0_RightsError m1_RightsError m2_RightsError m3_RightsError m5_RightsError : Option Value}
    {C_TextError : Addr}
    {nm_TextError qn_TextError : Str} {N_TextError : Addr} {bs_TextError : List Value} {sn_TextError : List Str} {sub_TextError : List Value} {ab_TextError : Bool} {col_TextError : Option Bool} {dd_TextError : Option Addr} {m0_TextError m1_TextError m2_TextError m3_TextError m5_TextError : Option Value}
    {C_Function : Addr}
    {C_Program : Addr}
    {C_Reader : Addr}
    (aC_RightsError : PySem.W.nsIn K mainGlobals "RightsError" = some (some (.ref C_RightsError)))
    (n_RightsError_reason : PySem.W.findIn K (.ref C_RightsError) "reason" = some none)
    (xL_RightsError : K.lookup C_RightsError = some (excClassObj nm_RightsError qn_RightsError C_RightsError N_RightsError bs_RightsError [.type "ValueError", .type "Exception", .type "BaseException", .type "object"] true sn_RightsError sub_RightsError ab_RightsError col_RightsError dd_RightsError m0_RightsError m1_RightsError m2_RightsError m3_RightsError m5_RightsError "ValueError.__new__"))
    (sa_RightsError : PySem.W.findIn K (.ref C_RightsError) "__setattr__" = some (some (.builtin "object.__setattr__")))
    (ga_RightsError : PySem.W.findIn K (.ref C_RightsError) "__getattribute__" = some (some (.builtin "BaseException.__getattribute__")))
    (gg_RightsError : PySem.W.findIn K (.ref C_RightsError) "__getattr__" = some none)
    (eC_RightsError : PySem.W.subIn K (.ref C_RightsError) (.type "BaseException") = some true)
    (tC_RightsError : PySem.W.typeIn K (.ref C_RightsError) = some (.type "type"))
    (hC_RightsError : PySem.W.hasDictIn K C_RightsError = true)
    (iC_RightsError : PySem.W.isClsIn K C_RightsError = true)
    (sC_RightsError : PySem.W.subIn K (.ref C_RightsError) (.ref C_RightsError) = some true)
    (kC_RightsError : PySem.W.keepIn K (.ref C_RightsError) = true)
    (rC_RightsError : PySem.W.readsIn K C_RightsError (.type "type") = true)
    (vC_RightsError : PySem.W.specialIn K (.ref C_RightsError) "__getattribute__" = some (some (.builtin "type.__getattribute__")))
    (aC_TextError : PySem.W.nsIn K mainGlobals "TextError" = some (some (.ref C_TextError)))
    (n_TextError_line : PySem.W.findIn K (.ref C_TextError) "line" = some none)
    (n_TextError_reason : PySem.W.findIn K (.ref C_TextError) "reason" = some none)
    (xL_TextError : K.lookup C_TextError = some (excClassObj nm_TextError qn_TextError C_TextError N_TextError bs_TextError (.ref C_RightsError :: [.type "ValueError", .type "Exception", .type "BaseException", .type "object"]) true sn_TextError sub_TextError ab_TextError col_TextError dd_TextError m0_TextError m1_TextError m2_TextError m3_TextError m5_TextError "ValueError.__new__"))
    (sa_TextError : PySem.W.findIn K (.ref C_TextError) "__setattr__" = some (some (.builtin "object.__setattr__")))
    (ga_TextError : PySem.W.findIn K (.ref C_TextError) "__getattribute__" = some (some (.builtin "BaseException.__getattribute__")))
    (gg_TextError : PySem.W.findIn K (.ref C_TextError) "__getattr__" = some none)
    (eC_TextError : PySem.W.subIn K (.ref C_TextError) (.type "BaseException") = some true)
    (tC_TextError : PySem.W.typeIn K (.ref C_TextError) = some (.type "type"))
    (hC_TextError : PySem.W.hasDictIn K C_TextError = true)
    (iC_TextError : PySem.W.isClsIn K C_TextError = true)
    (sC_TextError : PySem.W.subIn K (.ref C_TextError) (.ref C_TextError) = some true)
    (kC_TextError : PySem.W.keepIn K (.ref C_TextError) = true)
    (aC_Function : PySem.W.nsIn K mainGlobals "Function" = some (some (.ref C_Function)))
    (n_Function_name : PySem.W.findIn K (.ref C_Function) "name" = some none)
    (n_Function_params : PySem.W.findIn K (.ref C_Function) "params" = some none)
    (n_Function_body : PySem.W.findIn K (.ref C_Function) "body" = some none)
    (pg_Function : PySem.W.plainGet K C_Function Str.empty = true)
    (hd_Function : PySem.W.hasDictIn K C_Function = true)
    (po_Function : PySem.W.plainOver K C_Function = true)
    (sa_Function : PySem.W.findIn K (.ref C_Function) "__setattr__" = some (some (.builtin "object.__setattr__")))
    (mk_Function : PySem.W.makesIn K C_Function = true)
    (kc_Function : PySem.W.keepIn K (.ref C_Function) = true)
    (ha_Function : PySem.W.findIn K (.ref C_Function) "__class__" = some (some (.builtin "object.__class__")))
    (hm_Function : PySem.W.mroIn K C_Function (.type "object") = some true)
    (aC_Program : PySem.W.nsIn K mainGlobals "Program" = some (some (.ref C_Program)))
    (n_Program_functions : PySem.W.findIn K (.ref C_Program) "functions" = some none)
    (n_Program_statements : PySem.W.findIn K (.ref C_Program) "statements" = some none)
    (pg_Program : PySem.W.plainGet K C_Program Str.empty = true)
    (hd_Program : PySem.W.hasDictIn K C_Program = true)
    (po_Program : PySem.W.plainOver K C_Program = true)
    (sa_Program : PySem.W.findIn K (.ref C_Program) "__setattr__" = some (some (.builtin "object.__setattr__")))
    (mk_Program : PySem.W.makesIn K C_Program = true)
    (kc_Program : PySem.W.keepIn K (.ref C_Program) = true)
    (ha_Program : PySem.W.findIn K (.ref C_Program) "__class__" = some (some (.builtin "object.__class__")))
    (hm_Program : PySem.W.mroIn K C_Program (.type "object") = some true)
    (aC_Reader : PySem.W.nsIn K mainGlobals "Reader" = some (some (.ref C_Reader)))
    (n_Reader_functions : PySem.W.findIn K (.ref C_Reader) "functions" = some none)
    (n_Reader_statements : PySem.W.findIn K (.ref C_Reader) "statements" = some none)
    (n_Reader_head : PySem.W.findIn K (.ref C_Reader) "head" = some none)
    (n_Reader_body : PySem.W.findIn K (.ref C_Reader) "body" = some none)
    (pg_Reader : PySem.W.plainGet K C_Reader Str.empty = true)
    (hd_Reader : PySem.W.hasDictIn K C_Reader = true)
    (po_Reader : PySem.W.plainOver K C_Reader = true)
    (sa_Reader : PySem.W.findIn K (.ref C_Reader) "__setattr__" = some (some (.builtin "object.__setattr__")))
    (mk_Reader : PySem.W.makesIn K C_Reader = true)
    (kc_Reader : PySem.W.keepIn K (.ref C_Reader) = true)
    (ha_Reader : PySem.W.findIn K (.ref C_Reader) "__class__" = some (some (.builtin "object.__class__")))
    (hm_Reader : PySem.W.mroIn K C_Reader (.type "object") = some true)
    (hn_ : PySem.W.specialIn K (.builtin "object.__class__") "__get__" = some (some (.builtin "getset_descriptor.__get__")))
    (ht_ : PySem.W.takesIn K (.builtin "object.__class__") = some true)
    (vV : PySem.W.findCls K (.type "ValueError") (.type "type") "__init__" = some (.val (.builtin "ValueError.__init__")))
    {f0 : Addr} {od0 an0 : Option Addr} {sl0 : Array (Option Value)} {oc0 kV0 dc0 pm0 cd0 ct0 : Value}
    (a0 : PySem.W.findIn K (.ref C_RightsError) "__init__" = some (some (.ref f0)))
    (i0 : PySem.W.typeIn K (.ref f0) = some (.type "function"))
    (l0 : K.lookup f0 = some ⟨oc0, od0, .func (PySem.W.fnOf "__init__" "RightsError.__init__" (defArgs s_RightsError_init) (defBody s_RightsError_init) (defScope s_RightsError_init) .none kV0 dc0 pm0 an0 cd0 ct0), sl0⟩) (c0 : PySem.W.codeIn K cd0 "RightsError.__init__" = true) (k0 : PySem.W.keepIn K (.ref f0) = true)
    {f1 : Addr} {od1 an1 : Option Addr} {sl1 : Array (Option Value)} {oc1 kV1 dc1 pm1 cd1 ct1 : Value}
    (a1 : PySem.W.findIn K (.ref C_TextError) "__init__" = some (some (.ref f1)))
    (i1 : PySem.W.typeIn K (.ref f1) = some (.type "function"))
    (l1 : K.lookup f1 = some ⟨oc1, od1, .func (PySem.W.fnOf "__init__" "TextError.__init__" (defArgs s_TextError_init) (defBody s_TextError_init) (defScope s_TextError_init) .none kV1 dc1 pm1 an1 cd1 ct1), sl1⟩) (c1 : PySem.W.codeIn K cd1 "TextError.__init__" = true) (k1 : PySem.W.keepIn K (.ref f1) = true)
    {f2 : Addr} {od2 an2 : Option Addr} {sl2 : Array (Option Value)} {oc2 kV2 dc2 pm2 cd2 ct2 : Value}
    (a2 : PySem.W.nsIn K mainGlobals "is_right" = some (some (.ref f2)))
    (l2 : K.lookup f2 = some ⟨oc2, od2, .func (PySem.W.fnOf "is_right" "is_right" (defArgs s_is_right) (defBody s_is_right) (defScope s_is_right) .none kV2 dc2 pm2 an2 cd2 ct2), sl2⟩) (c2 : PySem.W.codeIn K cd2 "is_right" = true) (k2 : PySem.W.keepIn K (.ref f2) = true)
    {f3 : Addr} {od3 an3 : Option Addr} {sl3 : Array (Option Value)} {oc3 kV3 dc3 pm3 cd3 ct3 : Value}
    (a3 : PySem.W.nsIn K mainGlobals "is_type" = some (some (.ref f3)))
    (l3 : K.lookup f3 = some ⟨oc3, od3, .func (PySem.W.fnOf "is_type" "is_type" (defArgs s_is_type) (defBody s_is_type) (defScope s_is_type) .none kV3 dc3 pm3 an3 cd3 ct3), sl3⟩) (c3 : PySem.W.codeIn K cd3 "is_type" = true) (k3 : PySem.W.keepIn K (.ref f3) = true)
    {f4 : Addr} {od4 an4 : Option Addr} {sl4 : Array (Option Value)} {oc4 kV4 dc4 pm4 cd4 ct4 : Value}
    (a4 : PySem.W.nsIn K mainGlobals "is_value_type" = some (some (.ref f4)))
    (l4 : K.lookup f4 = some ⟨oc4, od4, .func (PySem.W.fnOf "is_value_type" "is_value_type" (defArgs s_is_value_type) (defBody s_is_value_type) (defScope s_is_value_type) .none kV4 dc4 pm4 an4 cd4 ct4), sl4⟩) (c4 : PySem.W.codeIn K cd4 "is_value_type" = true) (k4 : PySem.W.keepIn K (.ref f4) = true)
    {f5 : Addr} {od5 an5 : Option Addr} {sl5 : Array (Option Value)} {oc5 kV5 dc5 pm5 cd5 ct5 : Value}
    (a5 : PySem.W.nsIn K mainGlobals "is_number" = some (some (.ref f5)))
    (l5 : K.lookup f5 = some ⟨oc5, od5, .func (PySem.W.fnOf "is_number" "is_number" (defArgs s_is_number) (defBody s_is_number) (defScope s_is_number) .none kV5 dc5 pm5 an5 cd5 ct5), sl5⟩) (c5 : PySem.W.codeIn K cd5 "is_number" = true) (k5 : PySem.W.keepIn K (.ref f5) = true)
    {f6 : Addr} {od6 an6 : Option Addr} {sl6 : Array (Option Value)} {oc6 kV6 dc6 pm6 cd6 ct6 : Value}
    (a6 : PySem.W.nsIn K mainGlobals "is_name" = some (some (.ref f6)))
    (l6 : K.lookup f6 = some ⟨oc6, od6, .func (PySem.W.fnOf "is_name" "is_name" (defArgs s_is_name) (defBody s_is_name) (defScope s_is_name) .none kV6 dc6 pm6 an6 cd6 ct6), sl6⟩) (c6 : PySem.W.codeIn K cd6 "is_name" = true) (k6 : PySem.W.keepIn K (.ref f6) = true)
    {f7 : Addr} {od7 an7 : Option Addr} {sl7 : Array (Option Value)} {oc7 kV7 dc7 pm7 cd7 ct7 : Value}
    (a7 : PySem.W.nsIn K mainGlobals "is_depth" = some (some (.ref f7)))
    (l7 : K.lookup f7 = some ⟨oc7, od7, .func (PySem.W.fnOf "is_depth" "is_depth" (defArgs s_is_depth) (defBody s_is_depth) (defScope s_is_depth) .none kV7 dc7 pm7 an7 cd7 ct7), sl7⟩) (c7 : PySem.W.codeIn K cd7 "is_depth" = true) (k7 : PySem.W.keepIn K (.ref f7) = true)
    {f8 : Addr} {od8 an8 : Option Addr} {sl8 : Array (Option Value)} {oc8 kV8 dc8 pm8 cd8 ct8 : Value}
    (a8 : PySem.W.nsIn K mainGlobals "is_place" = some (some (.ref f8)))
    (l8 : K.lookup f8 = some ⟨oc8, od8, .func (PySem.W.fnOf "is_place" "is_place" (defArgs s_is_place) (defBody s_is_place) (defScope s_is_place) .none kV8 dc8 pm8 an8 cd8 ct8), sl8⟩) (c8 : PySem.W.codeIn K cd8 "is_place" = true) (k8 : PySem.W.keepIn K (.ref f8) = true)
    {f9 : Addr} {od9 an9 : Option Addr} {sl9 : Array (Option Value)} {oc9 kV9 dc9 pm9 cd9 ct9 : Value}
    (a9 : PySem.W.nsIn K mainGlobals "first_word" = some (some (.ref f9)))
    (l9 : K.lookup f9 = some ⟨oc9, od9, .func (PySem.W.fnOf "first_word" "first_word" (defArgs s_first_word) (defBody s_first_word) (defScope s_first_word) .none kV9 dc9 pm9 an9 cd9 ct9), sl9⟩) (c9 : PySem.W.codeIn K cd9 "first_word" = true) (k9 : PySem.W.keepIn K (.ref f9) = true)
    {f10 : Addr} {od10 an10 : Option Addr} {sl10 : Array (Option Value)} {oc10 kV10 dc10 pm10 cd10 ct10 : Value}
    (a10 : PySem.W.nsIn K mainGlobals "is_source" = some (some (.ref f10)))
    (l10 : K.lookup f10 = some ⟨oc10, od10, .func (PySem.W.fnOf "is_source" "is_source" (defArgs s_is_source) (defBody s_is_source) (defScope s_is_source) .none kV10 dc10 pm10 an10 cd10 ct10), sl10⟩) (c10 : PySem.W.codeIn K cd10 "is_source" = true) (k10 : PySem.W.keepIn K (.ref f10) = true)
    {f11 : Addr} {od11 an11 : Option Addr} {sl11 : Array (Option Value)} {oc11 kV11 dc11 pm11 cd11 ct11 : Value}
    (a11 : PySem.W.nsIn K mainGlobals "is_source_list" = some (some (.ref f11)))
    (l11 : K.lookup f11 = some ⟨oc11, od11, .func (PySem.W.fnOf "is_source_list" "is_source_list" (defArgs s_is_source_list) (defBody s_is_source_list) (defScope s_is_source_list) .none kV11 dc11 pm11 an11 cd11 ct11), sl11⟩) (c11 : PySem.W.codeIn K cd11 "is_source_list" = true) (k11 : PySem.W.keepIn K (.ref f11) = true)
    {f12 : Addr} {od12 an12 : Option Addr} {sl12 : Array (Option Value)} {oc12 kV12 dc12 pm12 cd12 ct12 : Value}
    (a12 : PySem.W.nsIn K mainGlobals "is_declared" = some (some (.ref f12)))
    (l12 : K.lookup f12 = some ⟨oc12, od12, .func (PySem.W.fnOf "is_declared" "is_declared" (defArgs s_is_declared) (defBody s_is_declared) (defScope s_is_declared) .none kV12 dc12 pm12 an12 cd12 ct12), sl12⟩) (c12 : PySem.W.codeIn K cd12 "is_declared" = true) (k12 : PySem.W.keepIn K (.ref f12) = true)
    {f13 : Addr} {od13 an13 : Option Addr} {sl13 : Array (Option Value)} {oc13 kV13 dc13 pm13 cd13 ct13 : Value}
    (a13 : PySem.W.nsIn K mainGlobals "is_statement" = some (some (.ref f13)))
    (l13 : K.lookup f13 = some ⟨oc13, od13, .func (PySem.W.fnOf "is_statement" "is_statement" (defArgs s_is_statement) (defBody s_is_statement) (defScope s_is_statement) .none kV13 dc13 pm13 an13 cd13 ct13), sl13⟩) (c13 : PySem.W.codeIn K cd13 "is_statement" = true) (k13 : PySem.W.keepIn K (.ref f13) = true)
    {f14 : Addr} {od14 an14 : Option Addr} {sl14 : Array (Option Value)} {oc14 kV14 dc14 pm14 cd14 ct14 : Value}
    (a14 : PySem.W.findIn K (.ref C_Function) "__init__" = some (some (.ref f14)))
    (i14 : PySem.W.isFn K (.ref f14) = true)
    (l14 : K.lookup f14 = some ⟨oc14, od14, .func (PySem.W.fnOf "__init__" "Function.__init__" (defArgs s_Function_init) (defBody s_Function_init) (defScope s_Function_init) .none kV14 dc14 pm14 an14 cd14 ct14), sl14⟩) (c14 : PySem.W.codeIn K cd14 "Function.__init__" = true) (k14 : PySem.W.keepIn K (.ref f14) = true)
    {f15 : Addr} {od15 an15 : Option Addr} {sl15 : Array (Option Value)} {oc15 kV15 dc15 pm15 cd15 ct15 : Value}
    (a15 : PySem.W.findIn K (.ref C_Program) "__init__" = some (some (.ref f15)))
    (i15 : PySem.W.isFn K (.ref f15) = true)
    (l15 : K.lookup f15 = some ⟨oc15, od15, .func (PySem.W.fnOf "__init__" "Program.__init__" (defArgs s_Program_init) (defBody s_Program_init) (defScope s_Program_init) .none kV15 dc15 pm15 an15 cd15 ct15), sl15⟩) (c15 : PySem.W.codeIn K cd15 "Program.__init__" = true) (k15 : PySem.W.keepIn K (.ref f15) = true)
    {f16 : Addr} {od16 an16 : Option Addr} {sl16 : Array (Option Value)} {oc16 kV16 dc16 pm16 cd16 ct16 : Value}
    (a16 : PySem.W.nsIn K mainGlobals "copied" = some (some (.ref f16)))
    (l16 : K.lookup f16 = some ⟨oc16, od16, .func (PySem.W.fnOf "copied" "copied" (defArgs s_copied) (defBody s_copied) (defScope s_copied) .none kV16 dc16 pm16 an16 cd16 ct16), sl16⟩) (c16 : PySem.W.codeIn K cd16 "copied" = true) (k16 : PySem.W.keepIn K (.ref f16) = true)
    {f17 : Addr} {od17 an17 : Option Addr} {sl17 : Array (Option Value)} {oc17 kV17 dc17 pm17 cd17 ct17 : Value}
    (a17 : PySem.W.nsIn K mainGlobals "copied_statement" = some (some (.ref f17)))
    (l17 : K.lookup f17 = some ⟨oc17, od17, .func (PySem.W.fnOf "copied_statement" "copied_statement" (defArgs s_copied_statement) (defBody s_copied_statement) (defScope s_copied_statement) .none kV17 dc17 pm17 an17 cd17 ct17), sl17⟩) (c17 : PySem.W.codeIn K cd17 "copied_statement" = true) (k17 : PySem.W.keepIn K (.ref f17) = true)
    {f18 : Addr} {od18 an18 : Option Addr} {sl18 : Array (Option Value)} {oc18 kV18 dc18 pm18 cd18 ct18 : Value}
    (a18 : PySem.W.nsIn K mainGlobals "copied_statements" = some (some (.ref f18)))
    (l18 : K.lookup f18 = some ⟨oc18, od18, .func (PySem.W.fnOf "copied_statements" "copied_statements" (defArgs s_copied_statements) (defBody s_copied_statements) (defScope s_copied_statements) .none kV18 dc18 pm18 an18 cd18 ct18), sl18⟩) (c18 : PySem.W.codeIn K cd18 "copied_statements" = true) (k18 : PySem.W.keepIn K (.ref f18) = true)
    {f19 : Addr} {od19 an19 : Option Addr} {sl19 : Array (Option Value)} {oc19 kV19 dc19 pm19 cd19 ct19 : Value}
    (a19 : PySem.W.nsIn K mainGlobals "copied_function" = some (some (.ref f19)))
    (l19 : K.lookup f19 = some ⟨oc19, od19, .func (PySem.W.fnOf "copied_function" "copied_function" (defArgs s_copied_function) (defBody s_copied_function) (defScope s_copied_function) .none kV19 dc19 pm19 an19 cd19 ct19), sl19⟩) (c19 : PySem.W.codeIn K cd19 "copied_function" = true) (k19 : PySem.W.keepIn K (.ref f19) = true)
    {f20 : Addr} {od20 an20 : Option Addr} {sl20 : Array (Option Value)} {oc20 kV20 dc20 pm20 cd20 ct20 : Value}
    (a20 : PySem.W.nsIn K mainGlobals "copied_functions" = some (some (.ref f20)))
    (l20 : K.lookup f20 = some ⟨oc20, od20, .func (PySem.W.fnOf "copied_functions" "copied_functions" (defArgs s_copied_functions) (defBody s_copied_functions) (defScope s_copied_functions) .none kV20 dc20 pm20 an20 cd20 ct20), sl20⟩) (c20 : PySem.W.codeIn K cd20 "copied_functions" = true) (k20 : PySem.W.keepIn K (.ref f20) = true)
    {f21 : Addr} {od21 an21 : Option Addr} {sl21 : Array (Option Value)} {oc21 kV21 dc21 pm21 cd21 ct21 : Value}
    (a21 : PySem.W.nsIn K mainGlobals "is_program" = some (some (.ref f21)))
    (l21 : K.lookup f21 = some ⟨oc21, od21, .func (PySem.W.fnOf "is_program" "is_program" (defArgs s_is_program) (defBody s_is_program) (defScope s_is_program) .none kV21 dc21 pm21 an21 cd21 ct21), sl21⟩) (c21 : PySem.W.codeIn K cd21 "is_program" = true) (k21 : PySem.W.keepIn K (.ref f21) = true)
    {f22 : Addr} {od22 an22 : Option Addr} {sl22 : Array (Option Value)} {oc22 kV22 dc22 pm22 cd22 ct22 : Value}
    (a22 : PySem.W.nsIn K mainGlobals "is_function" = some (some (.ref f22)))
    (l22 : K.lookup f22 = some ⟨oc22, od22, .func (PySem.W.fnOf "is_function" "is_function" (defArgs s_is_function) (defBody s_is_function) (defScope s_is_function) .none kV22 dc22 pm22 an22 cd22 ct22), sl22⟩) (c22 : PySem.W.codeIn K cd22 "is_function" = true) (k22 : PySem.W.keepIn K (.ref f22) = true)
    {f23 : Addr} {od23 an23 : Option Addr} {sl23 : Array (Option Value)} {oc23 kV23 dc23 pm23 cd23 ct23 : Value}
    (a23 : PySem.W.nsIn K mainGlobals "are_statements" = some (some (.ref f23)))
    (l23 : K.lookup f23 = some ⟨oc23, od23, .func (PySem.W.fnOf "are_statements" "are_statements" (defArgs s_are_statements) (defBody s_are_statements) (defScope s_are_statements) .none kV23 dc23 pm23 an23 cd23 ct23), sl23⟩) (c23 : PySem.W.codeIn K cd23 "are_statements" = true) (k23 : PySem.W.keepIn K (.ref f23) = true)
    {f24 : Addr} {od24 an24 : Option Addr} {sl24 : Array (Option Value)} {oc24 kV24 dc24 pm24 cd24 ct24 : Value}
    (a24 : PySem.W.nsIn K mainGlobals "declared" = some (some (.ref f24)))
    (l24 : K.lookup f24 = some ⟨oc24, od24, .func (PySem.W.fnOf "declared" "declared" (defArgs s_declared) (defBody s_declared) (defScope s_declared) .none kV24 dc24 pm24 an24 cd24 ct24), sl24⟩) (c24 : PySem.W.codeIn K cd24 "declared" = true) (k24 : PySem.W.keepIn K (.ref f24) = true)
    {f25 : Addr} {od25 an25 : Option Addr} {sl25 : Array (Option Value)} {oc25 kV25 dc25 pm25 cd25 ct25 : Value}
    (a25 : PySem.W.nsIn K mainGlobals "declared_by_lets" = some (some (.ref f25)))
    (l25 : K.lookup f25 = some ⟨oc25, od25, .func (PySem.W.fnOf "declared_by_lets" "declared_by_lets" (defArgs s_declared_by_lets) (defBody s_declared_by_lets) (defScope s_declared_by_lets) .none kV25 dc25 pm25 an25 cd25 ct25), sl25⟩) (c25 : PySem.W.codeIn K cd25 "declared_by_lets" = true) (k25 : PySem.W.keepIn K (.ref f25) = true)
    {f26 : Addr} {od26 an26 : Option Addr} {sl26 : Array (Option Value)} {oc26 kV26 dc26 pm26 cd26 ct26 : Value}
    (a26 : PySem.W.nsIn K mainGlobals "all_names" = some (some (.ref f26)))
    (l26 : K.lookup f26 = some ⟨oc26, od26, .func (PySem.W.fnOf "all_names" "all_names" (defArgs s_all_names) (defBody s_all_names) (defScope s_all_names) .none kV26 dc26 pm26 an26 cd26 ct26), sl26⟩) (c26 : PySem.W.codeIn K cd26 "all_names" = true) (k26 : PySem.W.keepIn K (.ref f26) = true)
    {f27 : Addr} {od27 an27 : Option Addr} {sl27 : Array (Option Value)} {oc27 kV27 dc27 pm27 cd27 ct27 : Value}
    (a27 : PySem.W.nsIn K mainGlobals "all_kinds" = some (some (.ref f27)))
    (l27 : K.lookup f27 = some ⟨oc27, od27, .func (PySem.W.fnOf "all_kinds" "all_kinds" (defArgs s_all_kinds) (defBody s_all_kinds) (defScope s_all_kinds) .none kV27 dc27 pm27 an27 cd27 ct27), sl27⟩) (c27 : PySem.W.codeIn K cd27 "all_kinds" = true) (k27 : PySem.W.keepIn K (.ref f27) = true)
    {f28 : Addr} {od28 an28 : Option Addr} {sl28 : Array (Option Value)} {oc28 kV28 dc28 pm28 cd28 ct28 : Value}
    (a28 : PySem.W.nsIn K mainGlobals "are_different" = some (some (.ref f28)))
    (l28 : K.lookup f28 = some ⟨oc28, od28, .func (PySem.W.fnOf "are_different" "are_different" (defArgs s_are_different) (defBody s_are_different) (defScope s_are_different) .none kV28 dc28 pm28 an28 cd28 ct28), sl28⟩) (c28 : PySem.W.codeIn K cd28 "are_different" = true) (k28 : PySem.W.keepIn K (.ref f28) = true)
    {f29 : Addr} {od29 an29 : Option Addr} {sl29 : Array (Option Value)} {oc29 kV29 dc29 pm29 cd29 ct29 : Value}
    (a29 : PySem.W.nsIn K mainGlobals "are_of_one_kind" = some (some (.ref f29)))
    (l29 : K.lookup f29 = some ⟨oc29, od29, .func (PySem.W.fnOf "are_of_one_kind" "are_of_one_kind" (defArgs s_are_of_one_kind) (defBody s_are_of_one_kind) (defScope s_are_of_one_kind) .none kV29 dc29 pm29 an29 cd29 ct29), sl29⟩) (c29 : PySem.W.codeIn K cd29 "are_of_one_kind" = true) (k29 : PySem.W.keepIn K (.ref f29) = true)
    {f30 : Addr} {od30 an30 : Option Addr} {sl30 : Array (Option Value)} {oc30 kV30 dc30 pm30 cd30 ct30 : Value}
    (a30 : PySem.W.nsIn K mainGlobals "all_calls_fit" = some (some (.ref f30)))
    (l30 : K.lookup f30 = some ⟨oc30, od30, .func (PySem.W.fnOf "all_calls_fit" "all_calls_fit" (defArgs s_all_calls_fit) (defBody s_all_calls_fit) (defScope s_all_calls_fit) .none kV30 dc30 pm30 an30 cd30 ct30), sl30⟩) (c30 : PySem.W.codeIn K cd30 "all_calls_fit" = true) (k30 : PySem.W.keepIn K (.ref f30) = true)
    {f31 : Addr} {od31 an31 : Option Addr} {sl31 : Array (Option Value)} {oc31 kV31 dc31 pm31 cd31 ct31 : Value}
    (a31 : PySem.W.nsIn K mainGlobals "calls_fit" = some (some (.ref f31)))
    (l31 : K.lookup f31 = some ⟨oc31, od31, .func (PySem.W.fnOf "calls_fit" "calls_fit" (defArgs s_calls_fit) (defBody s_calls_fit) (defScope s_calls_fit) .none kV31 dc31 pm31 an31 cd31 ct31), sl31⟩) (c31 : PySem.W.codeIn K cd31 "calls_fit" = true) (k31 : PySem.W.keepIn K (.ref f31) = true)
    {f32 : Addr} {od32 an32 : Option Addr} {sl32 : Array (Option Value)} {oc32 kV32 dc32 pm32 cd32 ct32 : Value}
    (a32 : PySem.W.nsIn K mainGlobals "text_of" = some (some (.ref f32)))
    (l32 : K.lookup f32 = some ⟨oc32, od32, .func (PySem.W.fnOf "text_of" "text_of" (defArgs s_text_of) (defBody s_text_of) (defScope s_text_of) .none kV32 dc32 pm32 an32 cd32 ct32), sl32⟩) (c32 : PySem.W.codeIn K cd32 "text_of" = true) (k32 : PySem.W.keepIn K (.ref f32) = true)
    {f33 : Addr} {od33 an33 : Option Addr} {sl33 : Array (Option Value)} {oc33 kV33 dc33 pm33 cd33 ct33 : Value}
    (a33 : PySem.W.nsIn K mainGlobals "declared_text" = some (some (.ref f33)))
    (l33 : K.lookup f33 = some ⟨oc33, od33, .func (PySem.W.fnOf "declared_text" "declared_text" (defArgs s_declared_text) (defBody s_declared_text) (defScope s_declared_text) .none kV33 dc33 pm33 an33 cd33 ct33), sl33⟩) (c33 : PySem.W.codeIn K cd33 "declared_text" = true) (k33 : PySem.W.keepIn K (.ref f33) = true)
    {f34 : Addr} {od34 an34 : Option Addr} {sl34 : Array (Option Value)} {oc34 kV34 dc34 pm34 cd34 ct34 : Value}
    (a34 : PySem.W.nsIn K mainGlobals "place_text" = some (some (.ref f34)))
    (l34 : K.lookup f34 = some ⟨oc34, od34, .func (PySem.W.fnOf "place_text" "place_text" (defArgs s_place_text) (defBody s_place_text) (defScope s_place_text) .none kV34 dc34 pm34 an34 cd34 ct34), sl34⟩) (c34 : PySem.W.codeIn K cd34 "place_text" = true) (k34 : PySem.W.keepIn K (.ref f34) = true)
    {f35 : Addr} {od35 an35 : Option Addr} {sl35 : Array (Option Value)} {oc35 kV35 dc35 pm35 cd35 ct35 : Value}
    (a35 : PySem.W.nsIn K mainGlobals "source_text" = some (some (.ref f35)))
    (l35 : K.lookup f35 = some ⟨oc35, od35, .func (PySem.W.fnOf "source_text" "source_text" (defArgs s_source_text) (defBody s_source_text) (defScope s_source_text) .none kV35 dc35 pm35 an35 cd35 ct35), sl35⟩) (c35 : PySem.W.codeIn K cd35 "source_text" = true) (k35 : PySem.W.keepIn K (.ref f35) = true)
    {f36 : Addr} {od36 an36 : Option Addr} {sl36 : Array (Option Value)} {oc36 kV36 dc36 pm36 cd36 ct36 : Value}
    (a36 : PySem.W.nsIn K mainGlobals "statement_text" = some (some (.ref f36)))
    (l36 : K.lookup f36 = some ⟨oc36, od36, .func (PySem.W.fnOf "statement_text" "statement_text" (defArgs s_statement_text) (defBody s_statement_text) (defScope s_statement_text) .none kV36 dc36 pm36 an36 cd36 ct36), sl36⟩) (c36 : PySem.W.codeIn K cd36 "statement_text" = true) (k36 : PySem.W.keepIn K (.ref f36) = true)
    {f37 : Addr} {od37 an37 : Option Addr} {sl37 : Array (Option Value)} {oc37 kV37 dc37 pm37 cd37 ct37 : Value}
    (a37 : PySem.W.nsIn K mainGlobals "consists_of" = some (some (.ref f37)))
    (l37 : K.lookup f37 = some ⟨oc37, od37, .func (PySem.W.fnOf "consists_of" "consists_of" (defArgs s_consists_of) (defBody s_consists_of) (defScope s_consists_of) .none kV37 dc37 pm37 an37 cd37 ct37), sl37⟩) (c37 : PySem.W.codeIn K cd37 "consists_of" = true) (k37 : PySem.W.keepIn K (.ref f37) = true)
    {f38 : Addr} {od38 an38 : Option Addr} {sl38 : Array (Option Value)} {oc38 kV38 dc38 pm38 cd38 ct38 : Value}
    (a38 : PySem.W.nsIn K mainGlobals "name_read" = some (some (.ref f38)))
    (l38 : K.lookup f38 = some ⟨oc38, od38, .func (PySem.W.fnOf "name_read" "name_read" (defArgs s_name_read) (defBody s_name_read) (defScope s_name_read) .none kV38 dc38 pm38 an38 cd38 ct38), sl38⟩) (c38 : PySem.W.codeIn K cd38 "name_read" = true) (k38 : PySem.W.keepIn K (.ref f38) = true)
    {f39 : Addr} {od39 an39 : Option Addr} {sl39 : Array (Option Value)} {oc39 kV39 dc39 pm39 cd39 ct39 : Value}
    (a39 : PySem.W.nsIn K mainGlobals "number_read" = some (some (.ref f39)))
    (l39 : K.lookup f39 = some ⟨oc39, od39, .func (PySem.W.fnOf "number_read" "number_read" (defArgs s_number_read) (defBody s_number_read) (defScope s_number_read) .none kV39 dc39 pm39 an39 cd39 ct39), sl39⟩) (c39 : PySem.W.codeIn K cd39 "number_read" = true) (k39 : PySem.W.keepIn K (.ref f39) = true)
    {f40 : Addr} {od40 an40 : Option Addr} {sl40 : Array (Option Value)} {oc40 kV40 dc40 pm40 cd40 ct40 : Value}
    (a40 : PySem.W.nsIn K mainGlobals "kind_read" = some (some (.ref f40)))
    (l40 : K.lookup f40 = some ⟨oc40, od40, .func (PySem.W.fnOf "kind_read" "kind_read" (defArgs s_kind_read) (defBody s_kind_read) (defScope s_kind_read) .none kV40 dc40 pm40 an40 cd40 ct40), sl40⟩) (c40 : PySem.W.codeIn K cd40 "kind_read" = true) (k40 : PySem.W.keepIn K (.ref f40) = true)
    {f41 : Addr} {od41 an41 : Option Addr} {sl41 : Array (Option Value)} {oc41 kV41 dc41 pm41 cd41 ct41 : Value}
    (a41 : PySem.W.nsIn K mainGlobals "declared_read" = some (some (.ref f41)))
    (l41 : K.lookup f41 = some ⟨oc41, od41, .func (PySem.W.fnOf "declared_read" "declared_read" (defArgs s_declared_read) (defBody s_declared_read) (defScope s_declared_read) .none kV41 dc41 pm41 an41 cd41 ct41), sl41⟩) (c41 : PySem.W.codeIn K cd41 "declared_read" = true) (k41 : PySem.W.keepIn K (.ref f41) = true)
    {f42 : Addr} {od42 an42 : Option Addr} {sl42 : Array (Option Value)} {oc42 kV42 dc42 pm42 cd42 ct42 : Value}
    (a42 : PySem.W.nsIn K mainGlobals "place_read" = some (some (.ref f42)))
    (l42 : K.lookup f42 = some ⟨oc42, od42, .func (PySem.W.fnOf "place_read" "place_read" (defArgs s_place_read) (defBody s_place_read) (defScope s_place_read) .none kV42 dc42 pm42 an42 cd42 ct42), sl42⟩) (c42 : PySem.W.codeIn K cd42 "place_read" = true) (k42 : PySem.W.keepIn K (.ref f42) = true)
    {f43 : Addr} {od43 an43 : Option Addr} {sl43 : Array (Option Value)} {oc43 kV43 dc43 pm43 cd43 ct43 : Value}
    (a43 : PySem.W.nsIn K mainGlobals "source_read" = some (some (.ref f43)))
    (l43 : K.lookup f43 = some ⟨oc43, od43, .func (PySem.W.fnOf "source_read" "source_read" (defArgs s_source_read) (defBody s_source_read) (defScope s_source_read) .none kV43 dc43 pm43 an43 cd43 ct43), sl43⟩) (c43 : PySem.W.codeIn K cd43 "source_read" = true) (k43 : PySem.W.keepIn K (.ref f43) = true)
    {f44 : Addr} {od44 an44 : Option Addr} {sl44 : Array (Option Value)} {oc44 kV44 dc44 pm44 cd44 ct44 : Value}
    (a44 : PySem.W.nsIn K mainGlobals "called_read" = some (some (.ref f44)))
    (l44 : K.lookup f44 = some ⟨oc44, od44, .func (PySem.W.fnOf "called_read" "called_read" (defArgs s_called_read) (defBody s_called_read) (defScope s_called_read) .none kV44 dc44 pm44 an44 cd44 ct44), sl44⟩) (c44 : PySem.W.codeIn K cd44 "called_read" = true) (k44 : PySem.W.keepIn K (.ref f44) = true)
    {f45 : Addr} {od45 an45 : Option Addr} {sl45 : Array (Option Value)} {oc45 kV45 dc45 pm45 cd45 ct45 : Value}
    (a45 : PySem.W.nsIn K mainGlobals "head_read" = some (some (.ref f45)))
    (l45 : K.lookup f45 = some ⟨oc45, od45, .func (PySem.W.fnOf "head_read" "head_read" (defArgs s_head_read) (defBody s_head_read) (defScope s_head_read) .none kV45 dc45 pm45 an45 cd45 ct45), sl45⟩) (c45 : PySem.W.codeIn K cd45 "head_read" = true) (k45 : PySem.W.keepIn K (.ref f45) = true)
    {f46 : Addr} {od46 an46 : Option Addr} {sl46 : Array (Option Value)} {oc46 kV46 dc46 pm46 cd46 ct46 : Value}
    (a46 : PySem.W.nsIn K mainGlobals "let_read" = some (some (.ref f46)))
    (l46 : K.lookup f46 = some ⟨oc46, od46, .func (PySem.W.fnOf "let_read" "let_read" (defArgs s_let_read) (defBody s_let_read) (defScope s_let_read) .none kV46 dc46 pm46 an46 cd46 ct46), sl46⟩) (c46 : PySem.W.codeIn K cd46 "let_read" = true) (k46 : PySem.W.keepIn K (.ref f46) = true)
    {f47 : Addr} {od47 an47 : Option Addr} {sl47 : Array (Option Value)} {oc47 kV47 dc47 pm47 cd47 ct47 : Value}
    (a47 : PySem.W.nsIn K mainGlobals "put_read" = some (some (.ref f47)))
    (l47 : K.lookup f47 = some ⟨oc47, od47, .func (PySem.W.fnOf "put_read" "put_read" (defArgs s_put_read) (defBody s_put_read) (defScope s_put_read) .none kV47 dc47 pm47 an47 cd47 ct47), sl47⟩) (c47 : PySem.W.codeIn K cd47 "put_read" = true) (k47 : PySem.W.keepIn K (.ref f47) = true)
    {f48 : Addr} {od48 an48 : Option Addr} {sl48 : Array (Option Value)} {oc48 kV48 dc48 pm48 cd48 ct48 : Value}
    (a48 : PySem.W.nsIn K mainGlobals "call_read" = some (some (.ref f48)))
    (l48 : K.lookup f48 = some ⟨oc48, od48, .func (PySem.W.fnOf "call_read" "call_read" (defArgs s_call_read) (defBody s_call_read) (defScope s_call_read) .none kV48 dc48 pm48 an48 cd48 ct48), sl48⟩) (c48 : PySem.W.codeIn K cd48 "call_read" = true) (k48 : PySem.W.keepIn K (.ref f48) = true)
    {f49 : Addr} {od49 an49 : Option Addr} {sl49 : Array (Option Value)} {oc49 kV49 dc49 pm49 cd49 ct49 : Value}
    (a49 : PySem.W.nsIn K mainGlobals "statement_read" = some (some (.ref f49)))
    (l49 : K.lookup f49 = some ⟨oc49, od49, .func (PySem.W.fnOf "statement_read" "statement_read" (defArgs s_statement_read) (defBody s_statement_read) (defScope s_statement_read) .none kV49 dc49 pm49 an49 cd49 ct49), sl49⟩) (c49 : PySem.W.codeIn K cd49 "statement_read" = true) (k49 : PySem.W.keepIn K (.ref f49) = true)
    {f50 : Addr} {od50 an50 : Option Addr} {sl50 : Array (Option Value)} {oc50 kV50 dc50 pm50 cd50 ct50 : Value}
    (a50 : PySem.W.findIn K (.ref C_Reader) "__init__" = some (some (.ref f50)))
    (i50 : PySem.W.isFn K (.ref f50) = true)
    (l50 : K.lookup f50 = some ⟨oc50, od50, .func (PySem.W.fnOf "__init__" "Reader.__init__" (defArgs s_Reader_init) (defBody s_Reader_init) (defScope s_Reader_init) .none kV50 dc50 pm50 an50 cd50 ct50), sl50⟩) (c50 : PySem.W.codeIn K cd50 "Reader.__init__" = true) (k50 : PySem.W.keepIn K (.ref f50) = true)
    {f51 : Addr} {od51 an51 : Option Addr} {sl51 : Array (Option Value)} {oc51 kV51 dc51 pm51 cd51 ct51 : Value}
    (a51 : PySem.W.findIn K (.ref C_Reader) "takes" = some (some (.ref f51)))
    (i51 : PySem.W.isFn K (.ref f51) = true)
    (l51 : K.lookup f51 = some ⟨oc51, od51, .func (PySem.W.fnOf "takes" "Reader.takes" (defArgs s_Reader_takes) (defBody s_Reader_takes) (defScope s_Reader_takes) .none kV51 dc51 pm51 an51 cd51 ct51), sl51⟩) (c51 : PySem.W.codeIn K cd51 "Reader.takes" = true) (k51 : PySem.W.keepIn K (.ref f51) = true)
    {f52 : Addr} {od52 an52 : Option Addr} {sl52 : Array (Option Value)} {oc52 kV52 dc52 pm52 cd52 ct52 : Value}
    (a52 : PySem.W.findIn K (.ref C_Reader) "_takes_head" = some (some (.ref f52)))
    (i52 : PySem.W.isFn K (.ref f52) = true)
    (l52 : K.lookup f52 = some ⟨oc52, od52, .func (PySem.W.fnOf "_takes_head" "Reader._takes_head" (defArgs s_Reader_takes_head) (defBody s_Reader_takes_head) (defScope s_Reader_takes_head) .none kV52 dc52 pm52 an52 cd52 ct52), sl52⟩) (c52 : PySem.W.codeIn K cd52 "Reader._takes_head" = true) (k52 : PySem.W.keepIn K (.ref f52) = true)
    {f53 : Addr} {od53 an53 : Option Addr} {sl53 : Array (Option Value)} {oc53 kV53 dc53 pm53 cd53 ct53 : Value}
    (a53 : PySem.W.findIn K (.ref C_Reader) "_takes_in_function" = some (some (.ref f53)))
    (i53 : PySem.W.isFn K (.ref f53) = true)
    (l53 : K.lookup f53 = some ⟨oc53, od53, .func (PySem.W.fnOf "_takes_in_function" "Reader._takes_in_function" (defArgs s_Reader_takes_in_function) (defBody s_Reader_takes_in_function) (defScope s_Reader_takes_in_function) .none kV53 dc53 pm53 an53 cd53 ct53), sl53⟩) (c53 : PySem.W.codeIn K cd53 "Reader._takes_in_function" = true) (k53 : PySem.W.keepIn K (.ref f53) = true)
    {f54 : Addr} {od54 an54 : Option Addr} {sl54 : Array (Option Value)} {oc54 kV54 dc54 pm54 cd54 ct54 : Value}
    (a54 : PySem.W.nsIn K mainGlobals "takes_statement" = some (some (.ref f54)))
    (l54 : K.lookup f54 = some ⟨oc54, od54, .func (PySem.W.fnOf "takes_statement" "takes_statement" (defArgs s_takes_statement) (defBody s_takes_statement) (defScope s_takes_statement) .none kV54 dc54 pm54 an54 cd54 ct54), sl54⟩) (c54 : PySem.W.codeIn K cd54 "takes_statement" = true) (k54 : PySem.W.keepIn K (.ref f54) = true)
    {f55 : Addr} {od55 an55 : Option Addr} {sl55 : Array (Option Value)} {oc55 kV55 dc55 pm55 cd55 ct55 : Value}
    (a55 : PySem.W.nsIn K mainGlobals "read_program" = some (some (.ref f55)))
    (l55 : K.lookup f55 = some ⟨oc55, od55, .func (PySem.W.fnOf "read_program" "read_program" (defArgs s_read_program) (defBody s_read_program) (defScope s_read_program) .none kV55 dc55 pm55 an55 cd55 ct55), sl55⟩) (c55 : PySem.W.codeIn K cd55 "read_program" = true) (k55 : PySem.W.keepIn K (.ref f55) = true)
    {f56 : Addr} {od56 an56 : Option Addr} {sl56 : Array (Option Value)} {oc56 kV56 dc56 pm56 cd56 ct56 : Value}
    (a56 : PySem.W.nsIn K mainGlobals "_law_cell" = some (some (.ref f56)))
    (l56 : K.lookup f56 = some ⟨oc56, od56, .func (PySem.W.fnOf "_law_cell" "_law_cell" (defArgs s__law_cell) (defBody s__law_cell) (defScope s__law_cell) .none kV56 dc56 pm56 an56 cd56 ct56), sl56⟩) (c56 : PySem.W.codeIn K cd56 "_law_cell" = true) (k56 : PySem.W.keepIn K (.ref f56) = true)
    {f57 : Addr} {od57 an57 : Option Addr} {sl57 : Array (Option Value)} {oc57 kV57 dc57 pm57 cd57 ct57 : Value}
    (a57 : PySem.W.nsIn K mainGlobals "_law_row" = some (some (.ref f57)))
    (l57 : K.lookup f57 = some ⟨oc57, od57, .func (PySem.W.fnOf "_law_row" "_law_row" (defArgs s__law_row) (defBody s__law_row) (defScope s__law_row) .none kV57 dc57 pm57 an57 cd57 ct57), sl57⟩) (c57 : PySem.W.codeIn K cd57 "_law_row" = true) (k57 : PySem.W.keepIn K (.ref f57) = true)
    {f58 : Addr} {od58 an58 : Option Addr} {sl58 : Array (Option Value)} {oc58 kV58 dc58 pm58 cd58 ct58 : Value}
    (a58 : PySem.W.nsIn K mainGlobals "_law_draw" = some (some (.ref f58)))
    (l58 : K.lookup f58 = some ⟨oc58, od58, .func (PySem.W.fnOf "_law_draw" "_law_draw" (defArgs s__law_draw) (defBody s__law_draw) (defScope s__law_draw) .none kV58 dc58 pm58 an58 cd58 ct58), sl58⟩) (c58 : PySem.W.codeIn K cd58 "_law_draw" = true) (k58 : PySem.W.keepIn K (.ref f58) = true)
    {f59 : Addr} {od59 an59 : Option Addr} {sl59 : Array (Option Value)} {oc59 kV59 dc59 pm59 cd59 ct59 : Value}
    (a59 : PySem.W.nsIn K mainGlobals "_law_right" = some (some (.ref f59)))
    (l59 : K.lookup f59 = some ⟨oc59, od59, .func (PySem.W.fnOf "_law_right" "_law_right" (defArgs s__law_right) (defBody s__law_right) (defScope s__law_right) .none kV59 dc59 pm59 an59 cd59 ct59), sl59⟩) (c59 : PySem.W.codeIn K cd59 "_law_right" = true) (k59 : PySem.W.keepIn K (.ref f59) = true)
    {f60 : Addr} {od60 an60 : Option Addr} {sl60 : Array (Option Value)} {oc60 kV60 dc60 pm60 cd60 ct60 : Value}
    (a60 : PySem.W.nsIn K mainGlobals "_law_rights" = some (some (.ref f60)))
    (l60 : K.lookup f60 = some ⟨oc60, od60, .func (PySem.W.fnOf "_law_rights" "_law_rights" (defArgs s__law_rights) (defBody s__law_rights) (defScope s__law_rights) .none kV60 dc60 pm60 an60 cd60 ct60), sl60⟩) (c60 : PySem.W.codeIn K cd60 "_law_rights" = true) (k60 : PySem.W.keepIn K (.ref f60) = true)
    {f61 : Addr} {od61 an61 : Option Addr} {sl61 : Array (Option Value)} {oc61 kV61 dc61 pm61 cd61 ct61 : Value}
    (a61 : PySem.W.nsIn K mainGlobals "_law_source" = some (some (.ref f61)))
    (l61 : K.lookup f61 = some ⟨oc61, od61, .func (PySem.W.fnOf "_law_source" "_law_source" (defArgs s__law_source) (defBody s__law_source) (defScope s__law_source) .none kV61 dc61 pm61 an61 cd61 ct61), sl61⟩) (c61 : PySem.W.codeIn K cd61 "_law_source" = true) (k61 : PySem.W.keepIn K (.ref f61) = true)
    {f62 : Addr} {od62 an62 : Option Addr} {sl62 : Array (Option Value)} {oc62 kV62 dc62 pm62 cd62 ct62 : Value}
    (a62 : PySem.W.nsIn K mainGlobals "_law_statement" = some (some (.ref f62)))
    (l62 : K.lookup f62 = some ⟨oc62, od62, .func (PySem.W.fnOf "_law_statement" "_law_statement" (defArgs s__law_statement) (defBody s__law_statement) (defScope s__law_statement) .none kV62 dc62 pm62 an62 cd62 ct62), sl62⟩) (c62 : PySem.W.codeIn K cd62 "_law_statement" = true) (k62 : PySem.W.keepIn K (.ref f62) = true)
    {f63 : Addr} {od63 an63 : Option Addr} {sl63 : Array (Option Value)} {oc63 kV63 dc63 pm63 cd63 ct63 : Value}
    (a63 : PySem.W.nsIn K mainGlobals "_law_names" = some (some (.ref f63)))
    (l63 : K.lookup f63 = some ⟨oc63, od63, .func (PySem.W.fnOf "_law_names" "_law_names" (defArgs s__law_names) (defBody s__law_names) (defScope s__law_names) .none kV63 dc63 pm63 an63 cd63 ct63), sl63⟩) (c63 : PySem.W.codeIn K cd63 "_law_names" = true) (k63 : PySem.W.keepIn K (.ref f63) = true)
    {f64 : Addr} {od64 an64 : Option Addr} {sl64 : Array (Option Value)} {oc64 kV64 dc64 pm64 cd64 ct64 : Value}
    (a64 : PySem.W.nsIn K mainGlobals "_law_function" = some (some (.ref f64)))
    (l64 : K.lookup f64 = some ⟨oc64, od64, .func (PySem.W.fnOf "_law_function" "_law_function" (defArgs s__law_function) (defBody s__law_function) (defScope s__law_function) .none kV64 dc64 pm64 an64 cd64 ct64), sl64⟩) (c64 : PySem.W.codeIn K cd64 "_law_function" = true) (k64 : PySem.W.keepIn K (.ref f64) = true)
    {f65 : Addr} {od65 an65 : Option Addr} {sl65 : Array (Option Value)} {oc65 kV65 dc65 pm65 cd65 ct65 : Value}
    (a65 : PySem.W.nsIn K mainGlobals "_law_program" = some (some (.ref f65)))
    (l65 : K.lookup f65 = some ⟨oc65, od65, .func (PySem.W.fnOf "_law_program" "_law_program" (defArgs s__law_program) (defBody s__law_program) (defScope s__law_program) .none kV65 dc65 pm65 an65 cd65 ct65), sl65⟩) (c65 : PySem.W.codeIn K cd65 "_law_program" = true) (k65 : PySem.W.keepIn K (.ref f65) = true)
    {f66 : Addr} {od66 an66 : Option Addr} {sl66 : Array (Option Value)} {oc66 kV66 dc66 pm66 cd66 ct66 : Value}
    (a66 : PySem.W.nsIn K mainGlobals "_law_made" = some (some (.ref f66)))
    (l66 : K.lookup f66 = some ⟨oc66, od66, .func (PySem.W.fnOf "_law_made" "_law_made" (defArgs s__law_made) (defBody s__law_made) (defScope s__law_made) .none kV66 dc66 pm66 an66 cd66 ct66), sl66⟩) (c66 : PySem.W.codeIn K cd66 "_law_made" = true) (k66 : PySem.W.keepIn K (.ref f66) = true)
    {f67 : Addr} {od67 an67 : Option Addr} {sl67 : Array (Option Value)} {oc67 kV67 dc67 pm67 cd67 ct67 : Value}
    (a67 : PySem.W.nsIn K mainGlobals "_law_show_type" = some (some (.ref f67)))
    (l67 : K.lookup f67 = some ⟨oc67, od67, .func (PySem.W.fnOf "_law_show_type" "_law_show_type" (defArgs s__law_show_type) (defBody s__law_show_type) (defScope s__law_show_type) .none kV67 dc67 pm67 an67 cd67 ct67), sl67⟩) (c67 : PySem.W.codeIn K cd67 "_law_show_type" = true) (k67 : PySem.W.keepIn K (.ref f67) = true)
    {f68 : Addr} {od68 an68 : Option Addr} {sl68 : Array (Option Value)} {oc68 kV68 dc68 pm68 cd68 ct68 : Value}
    (a68 : PySem.W.nsIn K mainGlobals "_law_show_source" = some (some (.ref f68)))
    (l68 : K.lookup f68 = some ⟨oc68, od68, .func (PySem.W.fnOf "_law_show_source" "_law_show_source" (defArgs s__law_show_source) (defBody s__law_show_source) (defScope s__law_show_source) .none kV68 dc68 pm68 an68 cd68 ct68), sl68⟩) (c68 : PySem.W.codeIn K cd68 "_law_show_source" = true) (k68 : PySem.W.keepIn K (.ref f68) = true)
    {f69 : Addr} {od69 an69 : Option Addr} {sl69 : Array (Option Value)} {oc69 kV69 dc69 pm69 cd69 ct69 : Value}
    (a69 : PySem.W.nsIn K mainGlobals "_law_show" = some (some (.ref f69)))
    (l69 : K.lookup f69 = some ⟨oc69, od69, .func (PySem.W.fnOf "_law_show" "_law_show" (defArgs s__law_show) (defBody s__law_show) (defScope s__law_show) .none kV69 dc69 pm69 an69 cd69 ct69), sl69⟩) (c69 : PySem.W.codeIn K cd69 "_law_show" = true) (k69 : PySem.W.keepIn K (.ref f69) = true)
    {f70 : Addr} {od70 an70 : Option Addr} {sl70 : Array (Option Value)} {oc70 kV70 dc70 pm70 cd70 ct70 : Value}
    (a70 : PySem.W.nsIn K mainGlobals "_law_text" = some (some (.ref f70)))
    (l70 : K.lookup f70 = some ⟨oc70, od70, .func (PySem.W.fnOf "_law_text" "_law_text" (defArgs s__law_text) (defBody s__law_text) (defScope s__law_text) .none kV70 dc70 pm70 an70 cd70 ct70), sl70⟩) (c70 : PySem.W.codeIn K cd70 "_law_text" = true) (k70 : PySem.W.keepIn K (.ref f70) = true)
    {f71 : Addr} {od71 an71 : Option Addr} {sl71 : Array (Option Value)} {oc71 kV71 dc71 pm71 cd71 ct71 : Value}
    (a71 : PySem.W.nsIn K mainGlobals "_law_is_name" = some (some (.ref f71)))
    (l71 : K.lookup f71 = some ⟨oc71, od71, .func (PySem.W.fnOf "_law_is_name" "_law_is_name" (defArgs s__law_is_name) (defBody s__law_is_name) (defScope s__law_is_name) .none kV71 dc71 pm71 an71 cd71 ct71), sl71⟩) (c71 : PySem.W.codeIn K cd71 "_law_is_name" = true) (k71 : PySem.W.keepIn K (.ref f71) = true)
    {f72 : Addr} {od72 an72 : Option Addr} {sl72 : Array (Option Value)} {oc72 kV72 dc72 pm72 cd72 ct72 : Value}
    (a72 : PySem.W.nsIn K mainGlobals "_law_number" = some (some (.ref f72)))
    (l72 : K.lookup f72 = some ⟨oc72, od72, .func (PySem.W.fnOf "_law_number" "_law_number" (defArgs s__law_number) (defBody s__law_number) (defScope s__law_number) .none kV72 dc72 pm72 an72 cd72 ct72), sl72⟩) (c72 : PySem.W.codeIn K cd72 "_law_number" = true) (k72 : PySem.W.keepIn K (.ref f72) = true)
    {f73 : Addr} {od73 an73 : Option Addr} {sl73 : Array (Option Value)} {oc73 kV73 dc73 pm73 cd73 ct73 : Value}
    (a73 : PySem.W.nsIn K mainGlobals "_law_type" = some (some (.ref f73)))
    (l73 : K.lookup f73 = some ⟨oc73, od73, .func (PySem.W.fnOf "_law_type" "_law_type" (defArgs s__law_type) (defBody s__law_type) (defScope s__law_type) .none kV73 dc73 pm73 an73 cd73 ct73), sl73⟩) (c73 : PySem.W.codeIn K cd73 "_law_type" = true) (k73 : PySem.W.keepIn K (.ref f73) = true)
    {f74 : Addr} {od74 an74 : Option Addr} {sl74 : Array (Option Value)} {oc74 kV74 dc74 pm74 cd74 ct74 : Value}
    (a74 : PySem.W.nsIn K mainGlobals "_law_place" = some (some (.ref f74)))
    (l74 : K.lookup f74 = some ⟨oc74, od74, .func (PySem.W.fnOf "_law_place" "_law_place" (defArgs s__law_place) (defBody s__law_place) (defScope s__law_place) .none kV74 dc74 pm74 an74 cd74 ct74), sl74⟩) (c74 : PySem.W.codeIn K cd74 "_law_place" = true) (k74 : PySem.W.keepIn K (.ref f74) = true)
    {f75 : Addr} {od75 an75 : Option Addr} {sl75 : Array (Option Value)} {oc75 kV75 dc75 pm75 cd75 ct75 : Value}
    (a75 : PySem.W.nsIn K mainGlobals "_law_source_of" = some (some (.ref f75)))
    (l75 : K.lookup f75 = some ⟨oc75, od75, .func (PySem.W.fnOf "_law_source_of" "_law_source_of" (defArgs s__law_source_of) (defBody s__law_source_of) (defScope s__law_source_of) .none kV75 dc75 pm75 an75 cd75 ct75), sl75⟩) (c75 : PySem.W.codeIn K cd75 "_law_source_of" = true) (k75 : PySem.W.keepIn K (.ref f75) = true)
    {f76 : Addr} {od76 an76 : Option Addr} {sl76 : Array (Option Value)} {oc76 kV76 dc76 pm76 cd76 ct76 : Value}
    (a76 : PySem.W.nsIn K mainGlobals "_law_parted" = some (some (.ref f76)))
    (l76 : K.lookup f76 = some ⟨oc76, od76, .func (PySem.W.fnOf "_law_parted" "_law_parted" (defArgs s__law_parted) (defBody s__law_parted) (defScope s__law_parted) .none kV76 dc76 pm76 an76 cd76 ct76), sl76⟩) (c76 : PySem.W.codeIn K cd76 "_law_parted" = true) (k76 : PySem.W.keepIn K (.ref f76) = true)
    {f77 : Addr} {od77 an77 : Option Addr} {sl77 : Array (Option Value)} {oc77 kV77 dc77 pm77 cd77 ct77 : Value}
    (a77 : PySem.W.nsIn K mainGlobals "_law_let" = some (some (.ref f77)))
    (l77 : K.lookup f77 = some ⟨oc77, od77, .func (PySem.W.fnOf "_law_let" "_law_let" (defArgs s__law_let) (defBody s__law_let) (defScope s__law_let) .none kV77 dc77 pm77 an77 cd77 ct77), sl77⟩) (c77 : PySem.W.codeIn K cd77 "_law_let" = true) (k77 : PySem.W.keepIn K (.ref f77) = true)
    {f78 : Addr} {od78 an78 : Option Addr} {sl78 : Array (Option Value)} {oc78 kV78 dc78 pm78 cd78 ct78 : Value}
    (a78 : PySem.W.nsIn K mainGlobals "_law_put" = some (some (.ref f78)))
    (l78 : K.lookup f78 = some ⟨oc78, od78, .func (PySem.W.fnOf "_law_put" "_law_put" (defArgs s__law_put) (defBody s__law_put) (defScope s__law_put) .none kV78 dc78 pm78 an78 cd78 ct78), sl78⟩) (c78 : PySem.W.codeIn K cd78 "_law_put" = true) (k78 : PySem.W.keepIn K (.ref f78) = true)
    {f79 : Addr} {od79 an79 : Option Addr} {sl79 : Array (Option Value)} {oc79 kV79 dc79 pm79 cd79 ct79 : Value}
    (a79 : PySem.W.nsIn K mainGlobals "_law_call" = some (some (.ref f79)))
    (l79 : K.lookup f79 = some ⟨oc79, od79, .func (PySem.W.fnOf "_law_call" "_law_call" (defArgs s__law_call) (defBody s__law_call) (defScope s__law_call) .none kV79 dc79 pm79 an79 cd79 ct79), sl79⟩) (c79 : PySem.W.codeIn K cd79 "_law_call" = true) (k79 : PySem.W.keepIn K (.ref f79) = true)
    {f80 : Addr} {od80 an80 : Option Addr} {sl80 : Array (Option Value)} {oc80 kV80 dc80 pm80 cd80 ct80 : Value}
    (a80 : PySem.W.nsIn K mainGlobals "_law_statement_of" = some (some (.ref f80)))
    (l80 : K.lookup f80 = some ⟨oc80, od80, .func (PySem.W.fnOf "_law_statement_of" "_law_statement_of" (defArgs s__law_statement_of) (defBody s__law_statement_of) (defScope s__law_statement_of) .none kV80 dc80 pm80 an80 cd80 ct80), sl80⟩) (c80 : PySem.W.codeIn K cd80 "_law_statement_of" = true) (k80 : PySem.W.keepIn K (.ref f80) = true)
    {f81 : Addr} {od81 an81 : Option Addr} {sl81 : Array (Option Value)} {oc81 kV81 dc81 pm81 cd81 ct81 : Value}
    (a81 : PySem.W.nsIn K mainGlobals "_law_def" = some (some (.ref f81)))
    (l81 : K.lookup f81 = some ⟨oc81, od81, .func (PySem.W.fnOf "_law_def" "_law_def" (defArgs s__law_def) (defBody s__law_def) (defScope s__law_def) .none kV81 dc81 pm81 an81 cd81 ct81), sl81⟩) (c81 : PySem.W.codeIn K cd81 "_law_def" = true) (k81 : PySem.W.keepIn K (.ref f81) = true)
    {f82 : Addr} {od82 an82 : Option Addr} {sl82 : Array (Option Value)} {oc82 kV82 dc82 pm82 cd82 ct82 : Value}
    (a82 : PySem.W.nsIn K mainGlobals "_law_taken" = some (some (.ref f82)))
    (l82 : K.lookup f82 = some ⟨oc82, od82, .func (PySem.W.fnOf "_law_taken" "_law_taken" (defArgs s__law_taken) (defBody s__law_taken) (defScope s__law_taken) .none kV82 dc82 pm82 an82 cd82 ct82), sl82⟩) (c82 : PySem.W.codeIn K cd82 "_law_taken" = true) (k82 : PySem.W.keepIn K (.ref f82) = true)
    {f83 : Addr} {od83 an83 : Option Addr} {sl83 : Array (Option Value)} {oc83 kV83 dc83 pm83 cd83 ct83 : Value}
    (a83 : PySem.W.nsIn K mainGlobals "_law_due" = some (some (.ref f83)))
    (l83 : K.lookup f83 = some ⟨oc83, od83, .func (PySem.W.fnOf "_law_due" "_law_due" (defArgs s__law_due) (defBody s__law_due) (defScope s__law_due) .none kV83 dc83 pm83 an83 cd83 ct83), sl83⟩) (c83 : PySem.W.codeIn K cd83 "_law_due" = true) (k83 : PySem.W.keepIn K (.ref f83) = true)
    {f84 : Addr} {od84 an84 : Option Addr} {sl84 : Array (Option Value)} {oc84 kV84 dc84 pm84 cd84 ct84 : Value}
    (a84 : PySem.W.nsIn K mainGlobals "_law_told" = some (some (.ref f84)))
    (l84 : K.lookup f84 = some ⟨oc84, od84, .func (PySem.W.fnOf "_law_told" "_law_told" (defArgs s__law_told) (defBody s__law_told) (defScope s__law_told) .none kV84 dc84 pm84 an84 cd84 ct84), sl84⟩) (c84 : PySem.W.codeIn K cd84 "_law_told" = true) (k84 : PySem.W.keepIn K (.ref f84) = true)
    {f85 : Addr} {od85 an85 : Option Addr} {sl85 : Array (Option Value)} {oc85 kV85 dc85 pm85 cd85 ct85 : Value}
    (a85 : PySem.W.nsIn K mainGlobals "_law_sketch" = some (some (.ref f85)))
    (l85 : K.lookup f85 = some ⟨oc85, od85, .func (PySem.W.fnOf "_law_sketch" "_law_sketch" (defArgs s__law_sketch) (defBody s__law_sketch) (defScope s__law_sketch) .none kV85 dc85 pm85 an85 cd85 ct85), sl85⟩) (c85 : PySem.W.codeIn K cd85 "_law_sketch" = true) (k85 : PySem.W.keepIn K (.ref f85) = true)
    {f86 : Addr} {od86 an86 : Option Addr} {sl86 : Array (Option Value)} {oc86 kV86 dc86 pm86 cd86 ct86 : Value}
    (a86 : PySem.W.nsIn K mainGlobals "_law_depth" = some (some (.ref f86)))
    (l86 : K.lookup f86 = some ⟨oc86, od86, .func (PySem.W.fnOf "_law_depth" "_law_depth" (defArgs s__law_depth) (defBody s__law_depth) (defScope s__law_depth) .none kV86 dc86 pm86 an86 cd86 ct86), sl86⟩) (c86 : PySem.W.codeIn K cd86 "_law_depth" = true) (k86 : PySem.W.keepIn K (.ref f86) = true)
    {f87 : Addr} {od87 an87 : Option Addr} {sl87 : Array (Option Value)} {oc87 kV87 dc87 pm87 cd87 ct87 : Value}
    (a87 : PySem.W.nsIn K mainGlobals "_law_changed" = some (some (.ref f87)))
    (l87 : K.lookup f87 = some ⟨oc87, od87, .func (PySem.W.fnOf "_law_changed" "_law_changed" (defArgs s__law_changed) (defBody s__law_changed) (defScope s__law_changed) .none kV87 dc87 pm87 an87 cd87 ct87), sl87⟩) (c87 : PySem.W.codeIn K cd87 "_law_changed" = true) (k87 : PySem.W.keepIn K (.ref f87) = true)
    {f88 : Addr} {od88 an88 : Option Addr} {sl88 : Array (Option Value)} {oc88 kV88 dc88 pm88 cd88 ct88 : Value}
    (a88 : PySem.W.nsIn K mainGlobals "law" = some (some (.ref f88)))
    (l88 : K.lookup f88 = some ⟨oc88, od88, .func (PySem.W.fnOf "law" "law" (defArgs s_law) (defBody s_law) (defScope s_law) .none kV88 dc88 pm88 an88 cd88 ct88), sl88⟩) (c88 : PySem.W.codeIn K cd88 "law" = true) (k88 : PySem.W.keepIn K (.ref f88) = true)
    (jC_RightsError : PySem.W.findCls K (.ref C_RightsError) (.type "type") "__init__" = some (.val (.ref f0)))
    {q_RIGHTS : Addr} {oq_RIGHTS : Option Addr} {nq_RIGHTS : Nat} {sq_RIGHTS : Array (Option Value)} {tq_RIGHTS_0 tq_RIGHTS_1 tq_RIGHTS_2 tq_RIGHTS_3 : Tok}
    (u_RIGHTS : PySem.W.nsIn K mainGlobals "RIGHTS" = some (some (.ref q_RIGHTS))) (v_RIGHTS : K.lookup q_RIGHTS = some ⟨.type "tuple", oq_RIGHTS, .seq #[.str "rw" tq_RIGHTS_0, .str "r" tq_RIGHTS_1, .str "w" tq_RIGHTS_2, .str "-" tq_RIGHTS_3] nq_RIGHTS, sq_RIGHTS⟩)
    {k_MOST_RIGHTS : Tok}
    (u_MOST_RIGHTS : PySem.W.nsIn K mainGlobals "MOST_RIGHTS" = some (some (.int 6 k_MOST_RIGHTS)))
    {k_SIGNS : Tok}
    (u_SIGNS : PySem.W.nsIn K mainGlobals "SIGNS" = some (some (.str "abcdefghijklmnopqrstuvwxyz" k_SIGNS)))
    {k_MOST_SIGNS : Tok}
    (u_MOST_SIGNS : PySem.W.nsIn K mainGlobals "MOST_SIGNS" = some (some (.int 8 k_MOST_SIGNS)))
    {k_MOST_STARS : Tok}
    (u_MOST_STARS : PySem.W.nsIn K mainGlobals "MOST_STARS" = some (some (.int 5 k_MOST_STARS)))
    {k_MOST_DEPTH : Tok}
    (u_MOST_DEPTH : PySem.W.nsIn K mainGlobals "MOST_DEPTH" = some (some (.int 5 k_MOST_DEPTH)))
    {k_MOST_NUMBER : Tok}
    (u_MOST_NUMBER : PySem.W.nsIn K mainGlobals "MOST_NUMBER" = some (some (.int 1000 k_MOST_NUMBER)))
    {k_MOST_FUNCTIONS : Tok}
    (u_MOST_FUNCTIONS : PySem.W.nsIn K mainGlobals "MOST_FUNCTIONS" = some (some (.int 4 k_MOST_FUNCTIONS)))
    {k_MOST_PARAMS : Tok}
    (u_MOST_PARAMS : PySem.W.nsIn K mainGlobals "MOST_PARAMS" = some (some (.int 4 k_MOST_PARAMS)))
    {k_MOST_IN_BODY : Tok}
    (u_MOST_IN_BODY : PySem.W.nsIn K mainGlobals "MOST_IN_BODY" = some (some (.int 12 k_MOST_IN_BODY)))
    {k_MOST_STATEMENTS : Tok}
    (u_MOST_STATEMENTS : PySem.W.nsIn K mainGlobals "MOST_STATEMENTS" = some (some (.int 40 k_MOST_STATEMENTS)))
    {k_DIGITS : Tok}
    (u_DIGITS : PySem.W.nsIn K mainGlobals "DIGITS" = some (some (.str "0123456789" k_DIGITS)))
    {k_MOST_DIGITS : Tok}
    (u_MOST_DIGITS : PySem.W.nsIn K mainGlobals "MOST_DIGITS" = some (some (.int 9 k_MOST_DIGITS)))
    (z_ValueError : PySem.W.nsIn K mainGlobals "ValueError" = some none)
    (z_str : PySem.W.nsIn K mainGlobals "str" = some none)
    (z_type : PySem.W.nsIn K mainGlobals "type" = some none)
    (z_len : PySem.W.nsIn K mainGlobals "len" = some none)
    (z_all : PySem.W.nsIn K mainGlobals "all" = some none)
    (z_tuple : PySem.W.nsIn K mainGlobals "tuple" = some none)
    (z_int : PySem.W.nsIn K mainGlobals "int" = some none)
    (z_list : PySem.W.nsIn K mainGlobals "list" = some none)
    (z_isinstance : PySem.W.nsIn K mainGlobals "isinstance" = some none)
    (z_set : PySem.W.nsIn K mainGlobals "set" = some none)
    (z_enumerate : PySem.W.nsIn K mainGlobals "enumerate" = some none)
    (z_range : PySem.W.nsIn K mainGlobals "range" = some none)
    (z_abs : PySem.W.nsIn K mainGlobals "abs" = some none)
    (z_min : PySem.W.nsIn K mainGlobals "min" = some none) :
    ∃ fd : FuncData, (∀ (s : Shared) (v : Value), BindsTo s fd ⟨[v], []⟩ [("script", v)]) ∧ ∀ base : Heap, K.In base → base.Ns mainGlobals mg → FnOk l.prog w K mg base CX0 14 fa fd ["script"] (spLaw K) := by
  have e := hfa.symm.trans (PySem.W.mg_of X G a88)
  cases e
  have F0 := fun_mk (st := s_RightsError_init) l0 c0 k0
  have F1 := fun_mk (st := s_TextError_init) l1 c1 k1
  have F2 := fun_mk (st := s_is_right) l2 c2 k2
  have F3 := fun_mk (st := s_is_type) l3 c3 k3
  have F4 := fun_mk (st := s_is_value_type) l4 c4 k4
  have F5 := fun_mk (st := s_is_number) l5 c5 k5
  have F6 := fun_mk (st := s_is_name) l6 c6 k6
  have F7 := fun_mk (st := s_is_depth) l7 c7 k7
  have F8 := fun_mk (st := s_is_place) l8 c8 k8
  have F9 := fun_mk (st := s_first_word) l9 c9 k9
  have F10 := fun_mk (st := s_is_source) l10 c10 k10
  have F11 := fun_mk (st := s_is_source_list) l11 c11 k11
  have F12 := fun_mk (st := s_is_declared) l12 c12 k12
  have F13 := fun_mk (st := s_is_statement) l13 c13 k13
  have F14 := fun_mk (st := s_Function_init) l14 c14 k14
  have F15 := fun_mk (st := s_Program_init) l15 c15 k15
  have F16 := fun_mk (st := s_copied) l16 c16 k16
  have F17 := fun_mk (st := s_copied_statement) l17 c17 k17
  have F18 := fun_mk (st := s_copied_statements) l18 c18 k18
  have F19 := fun_mk (st := s_copied_function) l19 c19 k19
  have F20 := fun_mk (st := s_copied_functions) l20 c20 k20
  have F21 := fun_mk (st := s_is_program) l21 c21 k21
  have F22 := fun_mk (st := s_is_function) l22 c22 k22
  have F23 := fun_mk (st := s_are_statements) l23 c23 k23
  have F24 := fun_mk (st := s_declared) l24 c24 k24
  have F25 := fun_mk (st := s_declared_by_lets) l25 c25 k25
  have F26 := fun_mk (st := s_all_names) l26 c26 k26
  have F27 := fun_mk (st := s_all_kinds) l27 c27 k27
  have F28 := fun_mk (st := s_are_different) l28 c28 k28
  have F29 := fun_mk (st := s_are_of_one_kind) l29 c29 k29
  have F30 := fun_mk (st := s_all_calls_fit) l30 c30 k30
  have F31 := fun_mk (st := s_calls_fit) l31 c31 k31
  have F32 := fun_mk (st := s_text_of) l32 c32 k32
  have F33 := fun_mk (st := s_declared_text) l33 c33 k33
  have F34 := fun_mk (st := s_place_text) l34 c34 k34
  have F35 := fun_mk (st := s_source_text) l35 c35 k35
  have F36 := fun_mk (st := s_statement_text) l36 c36 k36
  have F37 := fun_mk (st := s_consists_of) l37 c37 k37
  have F38 := fun_mk (st := s_name_read) l38 c38 k38
  have F39 := fun_mk (st := s_number_read) l39 c39 k39
  have F40 := fun_mk (st := s_kind_read) l40 c40 k40
  have F41 := fun_mk (st := s_declared_read) l41 c41 k41
  have F42 := fun_mk (st := s_place_read) l42 c42 k42
  have F43 := fun_mk (st := s_source_read) l43 c43 k43
  have F44 := fun_mk (st := s_called_read) l44 c44 k44
  have F45 := fun_mk (st := s_head_read) l45 c45 k45
  have F46 := fun_mk (st := s_let_read) l46 c46 k46
  have F47 := fun_mk (st := s_put_read) l47 c47 k47
  have F48 := fun_mk (st := s_call_read) l48 c48 k48
  have F49 := fun_mk (st := s_statement_read) l49 c49 k49
  have F50 := fun_mk (st := s_Reader_init) l50 c50 k50
  have F51 := fun_mk (st := s_Reader_takes) l51 c51 k51
  have F52 := fun_mk (st := s_Reader_takes_head) l52 c52 k52
  have F53 := fun_mk (st := s_Reader_takes_in_function) l53 c53 k53
  have F54 := fun_mk (st := s_takes_statement) l54 c54 k54
  have F55 := fun_mk (st := s_read_program) l55 c55 k55
  have F56 := fun_mk (st := s__law_cell) l56 c56 k56
  have F57 := fun_mk (st := s__law_row) l57 c57 k57
  have F58 := fun_mk (st := s__law_draw) l58 c58 k58
  have F59 := fun_mk (st := s__law_right) l59 c59 k59
  have F60 := fun_mk (st := s__law_rights) l60 c60 k60
  have F61 := fun_mk (st := s__law_source) l61 c61 k61
  have F62 := fun_mk (st := s__law_statement) l62 c62 k62
  have F63 := fun_mk (st := s__law_names) l63 c63 k63
  have F64 := fun_mk (st := s__law_function) l64 c64 k64
  have F65 := fun_mk (st := s__law_program) l65 c65 k65
  have F66 := fun_mk (st := s__law_made) l66 c66 k66
  have F67 := fun_mk (st := s__law_show_type) l67 c67 k67
  have F68 := fun_mk (st := s__law_show_source) l68 c68 k68
  have F69 := fun_mk (st := s__law_show) l69 c69 k69
  have F70 := fun_mk (st := s__law_text) l70 c70 k70
  have F71 := fun_mk (st := s__law_is_name) l71 c71 k71
  have F72 := fun_mk (st := s__law_number) l72 c72 k72
  have F73 := fun_mk (st := s__law_type) l73 c73 k73
  have F74 := fun_mk (st := s__law_place) l74 c74 k74
  have F75 := fun_mk (st := s__law_source_of) l75 c75 k75
  have F76 := fun_mk (st := s__law_parted) l76 c76 k76
  have F77 := fun_mk (st := s__law_let) l77 c77 k77
  have F78 := fun_mk (st := s__law_put) l78 c78 k78
  have F79 := fun_mk (st := s__law_call) l79 c79 k79
  have F80 := fun_mk (st := s__law_statement_of) l80 c80 k80
  have F81 := fun_mk (st := s__law_def) l81 c81 k81
  have F82 := fun_mk (st := s__law_taken) l82 c82 k82
  have F83 := fun_mk (st := s__law_due) l83 c83 k83
  have F84 := fun_mk (st := s__law_told) l84 c84 k84
  have F85 := fun_mk (st := s__law_sketch) l85 c85 k85
  have F86 := fun_mk (st := s__law_depth) l86 c86 k86
  have F87 := fun_mk (st := s__law_changed) l87 c87 k87
  have F88 := fun_mk (st := s_law) l88 c88 k88
  have B0 := F0.binds (ps := p_RightsError_init) fun _ _ _ _ _ _ us hl => bd_2 hl rfl fun _ _ => rfl
  have B1 := F1.binds (ps := p_TextError_init) fun _ _ _ _ _ _ us hl => bd_3 hl rfl fun _ _ _ => rfl
  have B2 := F2.binds (ps := p_is_right) fun _ _ _ _ _ _ us hl => bd_1 hl rfl fun _ => rfl
  have B3 := F3.binds (ps := p_is_type) fun _ _ _ _ _ _ us hl => bd_1 hl rfl fun _ => rfl
  have B4 := F4.binds (ps := p_is_value_type) fun _ _ _ _ _ _ us hl => bd_1 hl rfl fun _ => rfl
  have B5 := F5.binds (ps := p_is_number) fun _ _ _ _ _ _ us hl => bd_2 hl rfl fun _ _ => rfl
  have B6 := F6.binds (ps := p_is_name) fun _ _ _ _ _ _ us hl => bd_1 hl rfl fun _ => rfl
  have B7 := F7.binds (ps := p_is_depth) fun _ _ _ _ _ _ us hl => bd_1 hl rfl fun _ => rfl
  have B8 := F8.binds (ps := p_is_place) fun _ _ _ _ _ _ us hl => bd_1 hl rfl fun _ => rfl
  have B9 := F9.binds (ps := p_first_word) fun _ _ _ _ _ _ us hl => bd_1 hl rfl fun _ => rfl
  have B10 := F10.binds (ps := p_is_source) fun _ _ _ _ _ _ us hl => bd_1 hl rfl fun _ => rfl
  have B11 := F11.binds (ps := p_is_source_list) fun _ _ _ _ _ _ us hl => bd_1 hl rfl fun _ => rfl
  have B12 := F12.binds (ps := p_is_declared) fun _ _ _ _ _ _ us hl => bd_1 hl rfl fun _ => rfl
  have B13 := F13.binds (ps := p_is_statement) fun _ _ _ _ _ _ us hl => bd_1 hl rfl fun _ => rfl
  have B14 := F14.binds (ps := p_Function_init) fun _ _ _ _ _ _ us hl => bd_4 hl rfl fun _ _ _ _ => rfl
  have B15 := F15.binds (ps := p_Program_init) fun _ _ _ _ _ _ us hl => bd_3 hl rfl fun _ _ _ => rfl
  have B16 := F16.binds (ps := p_copied) fun _ _ _ _ _ _ us hl => bd_1 hl rfl fun _ => rfl
  have B17 := F17.binds (ps := p_copied_statement) fun _ _ _ _ _ _ us hl => bd_1 hl rfl fun _ => rfl
  have B18 := F18.binds (ps := p_copied_statements) fun _ _ _ _ _ _ us hl => bd_1 hl rfl fun _ => rfl
  have B19 := F19.binds (ps := p_copied_function) fun _ _ _ _ _ _ us hl => bd_1 hl rfl fun _ => rfl
  have B20 := F20.binds (ps := p_copied_functions) fun _ _ _ _ _ _ us hl => bd_1 hl rfl fun _ => rfl
  have B21 := F21.binds (ps := p_is_program) fun _ _ _ _ _ _ us hl => bd_2 hl rfl fun _ _ => rfl
  have B22 := F22.binds (ps := p_is_function) fun _ _ _ _ _ _ us hl => bd_1 hl rfl fun _ => rfl
  have B23 := F23.binds (ps := p_are_statements) fun _ _ _ _ _ _ us hl => bd_2 hl rfl fun _ _ => rfl
  have B24 := F24.binds (ps := p_declared) fun _ _ _ _ _ _ us hl => bd_2 hl rfl fun _ _ => rfl
  have B25 := F25.binds (ps := p_declared_by_lets) fun _ _ _ _ _ _ us hl => bd_1 hl rfl fun _ => rfl
  have B26 := F26.binds (ps := p_all_names) fun _ _ _ _ _ _ us hl => bd_2 hl rfl fun _ _ => rfl
  have B27 := F27.binds (ps := p_all_kinds) fun _ _ _ _ _ _ us hl => bd_2 hl rfl fun _ _ => rfl
  have B28 := F28.binds (ps := p_are_different) fun _ _ _ _ _ _ us hl => bd_1 hl rfl fun _ => rfl
  have B29 := F29.binds (ps := p_are_of_one_kind) fun _ _ _ _ _ _ us hl => bd_1 hl rfl fun _ => rfl
  have B30 := F30.binds (ps := p_all_calls_fit) fun _ _ _ _ _ _ us hl => bd_2 hl rfl fun _ _ => rfl
  have B31 := F31.binds (ps := p_calls_fit) fun _ _ _ _ _ _ us hl => bd_2 hl rfl fun _ _ => rfl
  have B32 := F32.binds (ps := p_text_of) fun _ _ _ _ _ _ us hl => bd_1 hl rfl fun _ => rfl
  have B33 := F33.binds (ps := p_declared_text) fun _ _ _ _ _ _ us hl => bd_2 hl rfl fun _ _ => rfl
  have B34 := F34.binds (ps := p_place_text) fun _ _ _ _ _ _ us hl => bd_1 hl rfl fun _ => rfl
  have B35 := F35.binds (ps := p_source_text) fun _ _ _ _ _ _ us hl => bd_1 hl rfl fun _ => rfl
  have B36 := F36.binds (ps := p_statement_text) fun _ _ _ _ _ _ us hl => bd_1 hl rfl fun _ => rfl
  have B37 := F37.binds (ps := p_consists_of) fun _ _ _ _ _ _ us hl => bd_2 hl rfl fun _ _ => rfl
  have B38 := F38.binds (ps := p_name_read) fun _ _ _ _ _ _ us hl => bd_1 hl rfl fun _ => rfl
  have B39 := F39.binds (ps := p_number_read) fun _ _ _ _ _ _ us hl => bd_1 hl rfl fun _ => rfl
  have B40 := F40.binds (ps := p_kind_read) fun _ _ _ _ _ _ us hl => bd_1 hl rfl fun _ => rfl
  have B41 := F41.binds (ps := p_declared_read) fun _ _ _ _ _ _ us hl => bd_1 hl rfl fun _ => rfl
  have B42 := F42.binds (ps := p_place_read) fun _ _ _ _ _ _ us hl => bd_1 hl rfl fun _ => rfl
  have B43 := F43.binds (ps := p_source_read) fun _ _ _ _ _ _ us hl => bd_1 hl rfl fun _ => rfl
  have B44 := F44.binds (ps := p_called_read) fun _ _ _ _ _ _ us hl => bd_1 hl rfl fun _ => rfl
  have B45 := F45.binds (ps := p_head_read) fun _ _ _ _ _ _ us hl => bd_1 hl rfl fun _ => rfl
  have B46 := F46.binds (ps := p_let_read) fun _ _ _ _ _ _ us hl => bd_1 hl rfl fun _ => rfl
  have B47 := F47.binds (ps := p_put_read) fun _ _ _ _ _ _ us hl => bd_1 hl rfl fun _ => rfl
  have B48 := F48.binds (ps := p_call_read) fun _ _ _ _ _ _ us hl => bd_1 hl rfl fun _ => rfl
  have B49 := F49.binds (ps := p_statement_read) fun _ _ _ _ _ _ us hl => bd_1 hl rfl fun _ => rfl
  have B50 := F50.binds (ps := p_Reader_init) fun _ _ _ _ _ _ us hl => bd_1 hl rfl fun _ => rfl
  have B51 := F51.binds (ps := p_Reader_takes) fun _ _ _ _ _ _ us hl => bd_2 hl rfl fun _ _ => rfl
  have B52 := F52.binds (ps := p_Reader_takes_head) fun _ _ _ _ _ _ us hl => bd_2 hl rfl fun _ _ => rfl
  have B53 := F53.binds (ps := p_Reader_takes_in_function) fun _ _ _ _ _ _ us hl => bd_2 hl rfl fun _ _ => rfl
  have B54 := F54.binds (ps := p_takes_statement) fun _ _ _ _ _ _ us hl => bd_2 hl rfl fun _ _ => rfl
  have B55 := F55.binds (ps := p_read_program) fun _ _ _ _ _ _ us hl => bd_1 hl rfl fun _ => rfl
  have B56 := F56.binds (ps := p__law_cell) fun _ _ _ _ _ _ us hl => bd_2 hl rfl fun _ _ => rfl
  have B57 := F57.binds (ps := p__law_row) fun _ _ _ _ _ _ us hl => bd_3 hl rfl fun _ _ _ => rfl
  have B58 := F58.binds (ps := p__law_draw) fun _ _ _ _ _ _ us hl => bd_2 hl rfl fun _ _ => rfl
  have B59 := F59.binds (ps := p__law_right) fun _ _ _ _ _ _ us hl => bd_1 hl rfl fun _ => rfl
  have B60 := F60.binds (ps := p__law_rights) fun _ _ _ _ _ _ us hl => bd_2 hl rfl fun _ _ => rfl
  have B61 := F61.binds (ps := p__law_source) fun _ _ _ _ _ _ us hl => bd_4 hl rfl fun _ _ _ _ => rfl
  have B62 := F62.binds (ps := p__law_statement) fun _ _ _ _ _ _ us hl => bd_5 hl rfl fun _ _ _ _ _ => rfl
  have B63 := F63.binds (ps := p__law_names) fun _ _ _ _ _ _ us hl => bd_0 hl rfl rfl
  have B64 := F64.binds (ps := p__law_function) fun _ _ _ _ _ _ us hl => bd_4 hl rfl fun _ _ _ _ => rfl
  have B65 := F65.binds (ps := p__law_program) fun _ _ _ _ _ _ us hl => bd_2 hl rfl fun _ _ => rfl
  have B66 := F66.binds (ps := p__law_made) fun _ _ _ _ _ _ us hl => bd_1 hl rfl fun _ => rfl
  have B67 := F67.binds (ps := p__law_show_type) fun _ _ _ _ _ _ us hl => bd_1 hl rfl fun _ => rfl
  have B68 := F68.binds (ps := p__law_show_source) fun _ _ _ _ _ _ us hl => bd_1 hl rfl fun _ => rfl
  have B69 := F69.binds (ps := p__law_show) fun _ _ _ _ _ _ us hl => bd_1 hl rfl fun _ => rfl
  have B70 := F70.binds (ps := p__law_text) fun _ _ _ _ _ _ us hl => bd_1 hl rfl fun _ => rfl
  have B71 := F71.binds (ps := p__law_is_name) fun _ _ _ _ _ _ us hl => bd_1 hl rfl fun _ => rfl
  have B72 := F72.binds (ps := p__law_number) fun _ _ _ _ _ _ us hl => bd_1 hl rfl fun _ => rfl
  have B73 := F73.binds (ps := p__law_type) fun _ _ _ _ _ _ us hl => bd_1 hl rfl fun _ => rfl
  have B74 := F74.binds (ps := p__law_place) fun _ _ _ _ _ _ us hl => bd_1 hl rfl fun _ => rfl
  have B75 := F75.binds (ps := p__law_source_of) fun _ _ _ _ _ _ us hl => bd_1 hl rfl fun _ => rfl
  have B76 := F76.binds (ps := p__law_parted) fun _ _ _ _ _ _ us hl => bd_3 hl rfl fun _ _ _ => rfl
  have B77 := F77.binds (ps := p__law_let) fun _ _ _ _ _ _ us hl => bd_1 hl rfl fun _ => rfl
  have B78 := F78.binds (ps := p__law_put) fun _ _ _ _ _ _ us hl => bd_1 hl rfl fun _ => rfl
  have B79 := F79.binds (ps := p__law_call) fun _ _ _ _ _ _ us hl => bd_1 hl rfl fun _ => rfl
  have B80 := F80.binds (ps := p__law_statement_of) fun _ _ _ _ _ _ us hl => bd_1 hl rfl fun _ => rfl
  have B81 := F81.binds (ps := p__law_def) fun _ _ _ _ _ _ us hl => bd_1 hl rfl fun _ => rfl
  have B82 := F82.binds (ps := p__law_taken) fun _ _ _ _ _ _ us hl => bd_2 hl rfl fun _ _ => rfl
  have B83 := F83.binds (ps := p__law_due) fun _ _ _ _ _ _ us hl => bd_1 hl rfl fun _ => rfl
  have B84 := F84.binds (ps := p__law_told) fun _ _ _ _ _ _ us hl => bd_1 hl rfl fun _ => rfl
  have B85 := F85.binds (ps := p__law_sketch) fun _ _ _ _ _ _ us hl => bd_1 hl rfl fun _ => rfl
  have B86 := F86.binds (ps := p__law_depth) fun _ _ _ _ _ _ us hl => bd_1 hl rfl fun _ => rfl
  have B87 := F87.binds (ps := p__law_changed) fun _ _ _ _ _ _ us hl => bd_2 hl rfl fun _ _ => rfl
  let T : Tx K mg := {
    a_RightsError_init := _
    e_RightsError_init := _
    d_RightsError_init := ⟨F0, B0⟩
    a_TextError_init := _
    e_TextError_init := _
    d_TextError_init := ⟨F1, B1⟩
    a_is_right := _
    e_is_right := _
    d_is_right := ⟨F2, B2, PySem.W.mg_of X G a2⟩
    a_is_type := _
    e_is_type := _
    d_is_type := ⟨F3, B3, PySem.W.mg_of X G a3⟩
    a_is_value_type := _
    e_is_value_type := _
    d_is_value_type := ⟨F4, B4, PySem.W.mg_of X G a4⟩
    a_is_number := _
    e_is_number := _
    d_is_number := ⟨F5, B5, PySem.W.mg_of X G a5⟩
    a_is_name := _
    e_is_name := _
    d_is_name := ⟨F6, B6, PySem.W.mg_of X G a6⟩
    a_is_depth := _
    e_is_depth := _
    d_is_depth := ⟨F7, B7, PySem.W.mg_of X G a7⟩
    a_is_place := _
    e_is_place := _
    d_is_place := ⟨F8, B8, PySem.W.mg_of X G a8⟩
    a_first_word := _
    e_first_word := _
    d_first_word := ⟨F9, B9, PySem.W.mg_of X G a9⟩
    a_is_source := _
    e_is_source := _
    d_is_source := ⟨F10, B10, PySem.W.mg_of X G a10⟩
    a_is_source_list := _
    e_is_source_list := _
    d_is_source_list := ⟨F11, B11, PySem.W.mg_of X G a11⟩
    a_is_declared := _
    e_is_declared := _
    d_is_declared := ⟨F12, B12, PySem.W.mg_of X G a12⟩
    a_is_statement := _
    e_is_statement := _
    d_is_statement := ⟨F13, B13, PySem.W.mg_of X G a13⟩
    a_Function_init := _
    e_Function_init := _
    d_Function_init := ⟨F14, B14⟩
    a_Program_init := _
    e_Program_init := _
    d_Program_init := ⟨F15, B15⟩
    a_copied := _
    e_copied := _
    d_copied := ⟨F16, B16, PySem.W.mg_of X G a16⟩
    a_copied_statement := _
    e_copied_statement := _
    d_copied_statement := ⟨F17, B17, PySem.W.mg_of X G a17⟩
    a_copied_statements := _
    e_copied_statements := _
    d_copied_statements := ⟨F18, B18, PySem.W.mg_of X G a18⟩
    a_copied_function := _
    e_copied_function := _
    d_copied_function := ⟨F19, B19, PySem.W.mg_of X G a19⟩
    a_copied_functions := _
    e_copied_functions := _
    d_copied_functions := ⟨F20, B20, PySem.W.mg_of X G a20⟩
    a_is_program := _
    e_is_program := _
    d_is_program := ⟨F21, B21, PySem.W.mg_of X G a21⟩
    a_is_function := _
    e_is_function := _
    d_is_function := ⟨F22, B22, PySem.W.mg_of X G a22⟩
    a_are_statements := _
    e_are_statements := _
    d_are_statements := ⟨F23, B23, PySem.W.mg_of X G a23⟩
    a_declared := _
    e_declared := _
    d_declared := ⟨F24, B24, PySem.W.mg_of X G a24⟩
    a_declared_by_lets := _
    e_declared_by_lets := _
    d_declared_by_lets := ⟨F25, B25, PySem.W.mg_of X G a25⟩
    a_all_names := _
    e_all_names := _
    d_all_names := ⟨F26, B26, PySem.W.mg_of X G a26⟩
    a_all_kinds := _
    e_all_kinds := _
    d_all_kinds := ⟨F27, B27, PySem.W.mg_of X G a27⟩
    a_are_different := _
    e_are_different := _
    d_are_different := ⟨F28, B28, PySem.W.mg_of X G a28⟩
    a_are_of_one_kind := _
    e_are_of_one_kind := _
    d_are_of_one_kind := ⟨F29, B29, PySem.W.mg_of X G a29⟩
    a_all_calls_fit := _
    e_all_calls_fit := _
    d_all_calls_fit := ⟨F30, B30, PySem.W.mg_of X G a30⟩
    a_calls_fit := _
    e_calls_fit := _
    d_calls_fit := ⟨F31, B31, PySem.W.mg_of X G a31⟩
    a_text_of := _
    e_text_of := _
    d_text_of := ⟨F32, B32, PySem.W.mg_of X G a32⟩
    a_declared_text := _
    e_declared_text := _
    d_declared_text := ⟨F33, B33, PySem.W.mg_of X G a33⟩
    a_place_text := _
    e_place_text := _
    d_place_text := ⟨F34, B34, PySem.W.mg_of X G a34⟩
    a_source_text := _
    e_source_text := _
    d_source_text := ⟨F35, B35, PySem.W.mg_of X G a35⟩
    a_statement_text := _
    e_statement_text := _
    d_statement_text := ⟨F36, B36, PySem.W.mg_of X G a36⟩
    a_consists_of := _
    e_consists_of := _
    d_consists_of := ⟨F37, B37, PySem.W.mg_of X G a37⟩
    a_name_read := _
    e_name_read := _
    d_name_read := ⟨F38, B38, PySem.W.mg_of X G a38⟩
    a_number_read := _
    e_number_read := _
    d_number_read := ⟨F39, B39, PySem.W.mg_of X G a39⟩
    a_kind_read := _
    e_kind_read := _
    d_kind_read := ⟨F40, B40, PySem.W.mg_of X G a40⟩
    a_declared_read := _
    e_declared_read := _
    d_declared_read := ⟨F41, B41, PySem.W.mg_of X G a41⟩
    a_place_read := _
    e_place_read := _
    d_place_read := ⟨F42, B42, PySem.W.mg_of X G a42⟩
    a_source_read := _
    e_source_read := _
    d_source_read := ⟨F43, B43, PySem.W.mg_of X G a43⟩
    a_called_read := _
    e_called_read := _
    d_called_read := ⟨F44, B44, PySem.W.mg_of X G a44⟩
    a_head_read := _
    e_head_read := _
    d_head_read := ⟨F45, B45, PySem.W.mg_of X G a45⟩
    a_let_read := _
    e_let_read := _
    d_let_read := ⟨F46, B46, PySem.W.mg_of X G a46⟩
    a_put_read := _
    e_put_read := _
    d_put_read := ⟨F47, B47, PySem.W.mg_of X G a47⟩
    a_call_read := _
    e_call_read := _
    d_call_read := ⟨F48, B48, PySem.W.mg_of X G a48⟩
    a_statement_read := _
    e_statement_read := _
    d_statement_read := ⟨F49, B49, PySem.W.mg_of X G a49⟩
    a_Reader_init := _
    e_Reader_init := _
    d_Reader_init := ⟨F50, B50⟩
    a_Reader_takes := _
    e_Reader_takes := _
    d_Reader_takes := ⟨F51, B51⟩
    a_Reader_takes_head := _
    e_Reader_takes_head := _
    d_Reader_takes_head := ⟨F52, B52⟩
    a_Reader_takes_in_function := _
    e_Reader_takes_in_function := _
    d_Reader_takes_in_function := ⟨F53, B53⟩
    a_takes_statement := _
    e_takes_statement := _
    d_takes_statement := ⟨F54, B54, PySem.W.mg_of X G a54⟩
    a_read_program := _
    e_read_program := _
    d_read_program := ⟨F55, B55, PySem.W.mg_of X G a55⟩
    a__law_cell := _
    e__law_cell := _
    d__law_cell := ⟨F56, B56, PySem.W.mg_of X G a56⟩
    a__law_row := _
    e__law_row := _
    d__law_row := ⟨F57, B57, PySem.W.mg_of X G a57⟩
    a__law_draw := _
    e__law_draw := _
    d__law_draw := ⟨F58, B58, PySem.W.mg_of X G a58⟩
    a__law_right := _
    e__law_right := _
    d__law_right := ⟨F59, B59, PySem.W.mg_of X G a59⟩
    a__law_rights := _
    e__law_rights := _
    d__law_rights := ⟨F60, B60, PySem.W.mg_of X G a60⟩
    a__law_source := _
    e__law_source := _
    d__law_source := ⟨F61, B61, PySem.W.mg_of X G a61⟩
    a__law_statement := _
    e__law_statement := _
    d__law_statement := ⟨F62, B62, PySem.W.mg_of X G a62⟩
    a__law_names := _
    e__law_names := _
    d__law_names := ⟨F63, B63, PySem.W.mg_of X G a63⟩
    a__law_function := _
    e__law_function := _
    d__law_function := ⟨F64, B64, PySem.W.mg_of X G a64⟩
    a__law_program := _
    e__law_program := _
    d__law_program := ⟨F65, B65, PySem.W.mg_of X G a65⟩
    a__law_made := _
    e__law_made := _
    d__law_made := ⟨F66, B66, PySem.W.mg_of X G a66⟩
    a__law_show_type := _
    e__law_show_type := _
    d__law_show_type := ⟨F67, B67, PySem.W.mg_of X G a67⟩
    a__law_show_source := _
    e__law_show_source := _
    d__law_show_source := ⟨F68, B68, PySem.W.mg_of X G a68⟩
    a__law_show := _
    e__law_show := _
    d__law_show := ⟨F69, B69, PySem.W.mg_of X G a69⟩
    a__law_text := _
    e__law_text := _
    d__law_text := ⟨F70, B70, PySem.W.mg_of X G a70⟩
    a__law_is_name := _
    e__law_is_name := _
    d__law_is_name := ⟨F71, B71, PySem.W.mg_of X G a71⟩
    a__law_number := _
    e__law_number := _
    d__law_number := ⟨F72, B72, PySem.W.mg_of X G a72⟩
    a__law_type := _
    e__law_type := _
    d__law_type := ⟨F73, B73, PySem.W.mg_of X G a73⟩
    a__law_place := _
    e__law_place := _
    d__law_place := ⟨F74, B74, PySem.W.mg_of X G a74⟩
    a__law_source_of := _
    e__law_source_of := _
    d__law_source_of := ⟨F75, B75, PySem.W.mg_of X G a75⟩
    a__law_parted := _
    e__law_parted := _
    d__law_parted := ⟨F76, B76, PySem.W.mg_of X G a76⟩
    a__law_let := _
    e__law_let := _
    d__law_let := ⟨F77, B77, PySem.W.mg_of X G a77⟩
    a__law_put := _
    e__law_put := _
    d__law_put := ⟨F78, B78, PySem.W.mg_of X G a78⟩
    a__law_call := _
    e__law_call := _
    d__law_call := ⟨F79, B79, PySem.W.mg_of X G a79⟩
    a__law_statement_of := _
    e__law_statement_of := _
    d__law_statement_of := ⟨F80, B80, PySem.W.mg_of X G a80⟩
    a__law_def := _
    e__law_def := _
    d__law_def := ⟨F81, B81, PySem.W.mg_of X G a81⟩
    a__law_taken := _
    e__law_taken := _
    d__law_taken := ⟨F82, B82, PySem.W.mg_of X G a82⟩
    a__law_due := _
    e__law_due := _
    d__law_due := ⟨F83, B83, PySem.W.mg_of X G a83⟩
    a__law_told := _
    e__law_told := _
    d__law_told := ⟨F84, B84, PySem.W.mg_of X G a84⟩
    a__law_sketch := _
    e__law_sketch := _
    d__law_sketch := ⟨F85, B85, PySem.W.mg_of X G a85⟩
    a__law_depth := _
    e__law_depth := _
    d__law_depth := ⟨F86, B86, PySem.W.mg_of X G a86⟩
    a__law_changed := _
    e__law_changed := _
    d__law_changed := ⟨F87, B87, PySem.W.mg_of X G a87⟩
    a_RIGHTS := q_RIGHTS
    m_RIGHTS := PySem.W.mg_of X G u_RIGHTS
    t_RIGHTS := fun H => .inr ⟨_, _, _, v_RIGHTS, rfl, rfl, (by show 4 ≤ sizeLine; decide), (.cons ⟨_, rfl⟩ (.cons ⟨_, rfl⟩ (.cons ⟨_, rfl⟩ (.cons ⟨_, rfl⟩ .nil))))⟩
    k_MOST_RIGHTS := k_MOST_RIGHTS
    m_MOST_RIGHTS := PySem.W.mg_of X G u_MOST_RIGHTS
    k_SIGNS := k_SIGNS
    m_SIGNS := PySem.W.mg_of X G u_SIGNS
    k_MOST_SIGNS := k_MOST_SIGNS
    m_MOST_SIGNS := PySem.W.mg_of X G u_MOST_SIGNS
    k_MOST_STARS := k_MOST_STARS
    m_MOST_STARS := PySem.W.mg_of X G u_MOST_STARS
    k_MOST_DEPTH := k_MOST_DEPTH
    m_MOST_DEPTH := PySem.W.mg_of X G u_MOST_DEPTH
    k_MOST_NUMBER := k_MOST_NUMBER
    m_MOST_NUMBER := PySem.W.mg_of X G u_MOST_NUMBER
    k_MOST_FUNCTIONS := k_MOST_FUNCTIONS
    m_MOST_FUNCTIONS := PySem.W.mg_of X G u_MOST_FUNCTIONS
    k_MOST_PARAMS := k_MOST_PARAMS
    m_MOST_PARAMS := PySem.W.mg_of X G u_MOST_PARAMS
    k_MOST_IN_BODY := k_MOST_IN_BODY
    m_MOST_IN_BODY := PySem.W.mg_of X G u_MOST_IN_BODY
    k_MOST_STATEMENTS := k_MOST_STATEMENTS
    m_MOST_STATEMENTS := PySem.W.mg_of X G u_MOST_STATEMENTS
    k_DIGITS := k_DIGITS
    m_DIGITS := PySem.W.mg_of X G u_DIGITS
    k_MOST_DIGITS := k_MOST_DIGITS
    m_MOST_DIGITS := PySem.W.mg_of X G u_MOST_DIGITS
    b_ValueError := PySem.W.mg_none_of X G z_ValueError
    b_str := PySem.W.mg_none_of X G z_str
    b_type := PySem.W.mg_none_of X G z_type
    b_len := PySem.W.mg_none_of X G z_len
    b_all := PySem.W.mg_none_of X G z_all
    b_tuple := PySem.W.mg_none_of X G z_tuple
    b_int := PySem.W.mg_none_of X G z_int
    b_list := PySem.W.mg_none_of X G z_list
    b_isinstance := PySem.W.mg_none_of X G z_isinstance
    b_set := PySem.W.mg_none_of X G z_set
    b_enumerate := PySem.W.mg_none_of X G z_enumerate
    b_range := PySem.W.mg_none_of X G z_range
    b_abs := PySem.W.mg_none_of X G z_abs
    b_min := PySem.W.mg_none_of X G z_min
    C_RightsError := C_RightsError
    g_RightsError := PySem.W.mg_of X G aC_RightsError
    n_RightsError_reason := n_RightsError_reason
    o_RightsError := { cls := ⟨nm_RightsError, qn_RightsError, N_RightsError, bs_RightsError, _, sn_RightsError, sub_RightsError, ab_RightsError, col_RightsError, dd_RightsError, m0_RightsError, m1_RightsError, m2_RightsError, m3_RightsError, m5_RightsError, xL_RightsError, by first | decide +kernel | exact (by decide +kernel : PySem.HandSPX.refsVE [Value.type "ValueError", Value.type "Exception", Value.type "BaseException", Value.type "object"] = true)⟩, sa := sa_RightsError, exC := eC_RightsError, tyC := tC_RightsError, kC := kC_RightsError }
    cr_RightsError := ⟨rC_RightsError, vC_RightsError⟩
    ci_RightsError := ⟨jC_RightsError, rfl⟩
    x_RightsError := { ga := ga_RightsError, gg := gg_RightsError, exC := eC_RightsError, hdC := hC_RightsError }
    i_RightsError := a0
    t_RightsError := i0
    s_RightsError := own_caught eC_RightsError iC_RightsError tC_RightsError sC_RightsError
    C_TextError := C_TextError
    g_TextError := PySem.W.mg_of X G aC_TextError
    n_TextError_line := n_TextError_line
    n_TextError_reason := n_TextError_reason
    o_TextError := { cls := ⟨nm_TextError, qn_TextError, N_TextError, bs_TextError, _, sn_TextError, sub_TextError, ab_TextError, col_TextError, dd_TextError, m0_TextError, m1_TextError, m2_TextError, m3_TextError, m5_TextError, xL_TextError, by first | decide +kernel | exact (by decide +kernel : PySem.HandSPX.refsVE [Value.type "ValueError", Value.type "Exception", Value.type "BaseException", Value.type "object"] = true)⟩, sa := sa_TextError, exC := eC_TextError, tyC := tC_TextError, kC := kC_TextError }
    x_TextError := { ga := ga_TextError, gg := gg_TextError, exC := eC_TextError, hdC := hC_TextError }
    i_TextError := a1
    t_TextError := i1
    s_TextError := own_caught eC_TextError iC_TextError tC_TextError sC_TextError
    C_Function := C_Function
    g_Function := PySem.W.mg_of X G aC_Function
    n_Function_name := n_Function_name
    n_Function_params := n_Function_params
    n_Function_body := n_Function_body
    c_Function := ⟨pg_Function, hd_Function, po_Function, sa_Function⟩
    k_Function := ⟨mk_Function, a14, i14, kc_Function⟩
    i_Function := ⟨ha_Function, hn_, ht_, hm_Function⟩
    C_Program := C_Program
    g_Program := PySem.W.mg_of X G aC_Program
    n_Program_functions := n_Program_functions
    n_Program_statements := n_Program_statements
    c_Program := ⟨pg_Program, hd_Program, po_Program, sa_Program⟩
    k_Program := ⟨mk_Program, a15, i15, kc_Program⟩
    i_Program := ⟨ha_Program, hn_, ht_, hm_Program⟩
    C_Reader := C_Reader
    g_Reader := PySem.W.mg_of X G aC_Reader
    n_Reader_functions := n_Reader_functions
    n_Reader_statements := n_Reader_statements
    n_Reader_head := n_Reader_head
    n_Reader_body := n_Reader_body
    c_Reader := ⟨pg_Reader, hd_Reader, po_Reader, sa_Reader⟩
    k_Reader := ⟨mk_Reader, a50, i50, kc_Reader⟩
    i_Reader := ⟨ha_Reader, hn_, ht_, hm_Reader⟩
    h_Reader_takes := ⟨a51, i51, k51⟩
    h_Reader_takes_head := ⟨a52, i52, k52⟩
    h_Reader_takes_in_function := ⟨a53, i53, k53⟩
    vV := vV }
  exact ⟨PySem.W.fnOf "law" "law" (defArgs s_law) (defBody s_law) (defScope s_law) .none kV88 dc88 pm88 an88 cd88 ct88, fun s v => .of_eq rfl, fun base _ _ => ok_law T F88⟩
end Ver
open PySem PySem.W PyProof.Rows
set_option maxRecDepth 100000 in
set_option maxHeartbeats 0 in
theorem PySem.Challenge.cw_rightskept_k19_texts_holds : PySem.Challenge.rw_rightskept_k19_texts.Holds := by
  refine head_top ?_
  k_fill
  refine L2.walk_of (l := PySem.Challenge.rw_rightskept_k19_texts) (n := 63) (k := 14) (x := "script") (CX := fun _ => L2.CX0) (sp := fun w => Ver.spLaw _) rfl (by decide) rfl ⟨rfl, by decide, by decide⟩ (fun w h Y => PySem.W.kIn_of Y) ?F (fun _ _ a ns hl _ hS => ⟨a, ns, rfl, hS, hl, fun _ => rfl⟩) (fun _ _ _ _ _ h => h)
  case F =>
    intro w mg fa h KX G hmg
    refine' Ver.all_mk KX G hmg ?aC_RightsError ?n_RightsError_reason ?xL_RightsError ?sa_RightsError ?ga_RightsError ?gg_RightsError ?eC_RightsError ?tC_RightsError ?hC_RightsError ?iC_RightsError ?sC_RightsError ?kC_RightsError ?rC_RightsError ?vC_RightsError ?aC_TextError ?n_TextError_line ?n_TextError_reason ?xL_TextError ?sa_TextError ?ga_TextError ?gg_TextError ?eC_TextError ?tC_TextError ?hC_TextError ?iC_TextError ?sC_TextError ?kC_TextError ?aC_Function ?n_Function_name ?n_Function_params ?n_Function_body ?pg_Function ?hd_Function ?po_Function ?sa_Function ?mk_Function ?kc_Function ?ha_Function ?hm_Function ?aC_Program ?n_Program_functions ?n_Program_statements ?pg_Program ?hd_Program ?po_Program ?sa_Program ?mk_Program ?kc_Program ?ha_Program ?hm_Program ?aC_Reader ?n_Reader_functions ?n_Reader_statements ?n_Reader_head ?n_Reader_body ?pg_Reader ?hd_Reader ?po_Reader ?sa_Reader ?mk_Reader ?kc_Reader ?ha_Reader ?hm_Reader ?hn_ ?ht_ ?vV ?a0 ?i0 ?l0 ?c0 ?k0 ?a1 ?i1 ?l1 ?c1 ?k1 ?a2 ?l2 ?c2 ?k2 ?a3 ?l3 ?c3 ?k3 ?a4 ?l4 ?c4 ?k4 ?a5 ?l5 ?c5 ?k5 ?a6 ?l6 ?c6 ?k6 ?a7 ?l7 ?c7 ?k7 ?a8 ?l8 ?c8 ?k8 ?a9 ?l9 ?c9 ?k9 ?a10 ?l10 ?c10 ?k10 ?a11 ?l11 ?c11 ?k11 ?a12 ?l12 ?c12 ?k12 ?a13 ?l13 ?c13 ?k13 ?a14 ?i14 ?l14 ?c14 ?k14 ?a15 ?i15 ?l15 ?c15 ?k15 ?a16 ?l16 ?c16 ?k16 ?a17 ?l17 ?c17 ?k17 ?a18 ?l18 ?c18 ?k18 ?a19 ?l19 ?c19 ?k19 ?a20 ?l20 ?c20 ?k20 ?a21 ?l21 ?c21 ?k21 ?a22 ?l22 ?c22 ?k22 ?a23 ?l23 ?c23 ?k23 ?a24 ?l24 ?c24 ?k24 ?a25 ?l25 ?c25 ?k25 ?a26 ?l26 ?c26 ?k26 ?a27 ?l27 ?c27 ?k27 ?a28 ?l28 ?c28 ?k28 ?a29 ?l29 ?c29 ?k29 ?a30 ?l30 ?c30 ?k30 ?a31 ?l31 ?c31 ?k31 ?a32 ?l32 ?c32 ?k32 ?a33 ?l33 ?c33 ?k33 ?a34 ?l34 ?c34 ?k34 ?a35 ?l35 ?c35 ?k35 ?a36 ?l36 ?c36 ?k36 ?a37 ?l37 ?c37 ?k37 ?a38 ?l38 ?c38 ?k38 ?a39 ?l39 ?c39 ?k39 ?a40 ?l40 ?c40 ?k40 ?a41 ?l41 ?c41 ?k41 ?a42 ?l42 ?c42 ?k42 ?a43 ?l43 ?c43 ?k43 ?a44 ?l44 ?c44 ?k44 ?a45 ?l45 ?c45 ?k45 ?a46 ?l46 ?c46 ?k46 ?a47 ?l47 ?c47 ?k47 ?a48 ?l48 ?c48 ?k48 ?a49 ?l49 ?c49 ?k49 ?a50 ?i50 ?l50 ?c50 ?k50 ?a51 ?i51 ?l51 ?c51 ?k51 ?a52 ?i52 ?l52 ?c52 ?k52 ?a53 ?i53 ?l53 ?c53 ?k53 ?a54 ?l54 ?c54 ?k54 ?a55 ?l55 ?c55 ?k55 ?a56 ?l56 ?c56 ?k56 ?a57 ?l57 ?c57 ?k57 ?a58 ?l58 ?c58 ?k58 ?a59 ?l59 ?c59 ?k59 ?a60 ?l60 ?c60 ?k60 ?a61 ?l61 ?c61 ?k61 ?a62 ?l62 ?c62 ?k62 ?a63 ?l63 ?c63 ?k63 ?a64 ?l64 ?c64 ?k64 ?a65 ?l65 ?c65 ?k65 ?a66 ?l66 ?c66 ?k66 ?a67 ?l67 ?c67 ?k67 ?a68 ?l68 ?c68 ?k68 ?a69 ?l69 ?c69 ?k69 ?a70 ?l70 ?c70 ?k70 ?a71 ?l71 ?c71 ?k71 ?a72 ?l72 ?c72 ?k72 ?a73 ?l73 ?c73 ?k73 ?a74 ?l74 ?c74 ?k74 ?a75 ?l75 ?c75 ?k75 ?a76 ?l76 ?c76 ?k76 ?a77 ?l77 ?c77 ?k77 ?a78 ?l78 ?c78 ?k78 ?a79 ?l79 ?c79 ?k79 ?a80 ?l80 ?c80 ?k80 ?a81 ?l81 ?c81 ?k81 ?a82 ?l82 ?c82 ?k82 ?a83 ?l83 ?c83 ?k83 ?a84 ?l84 ?c84 ?k84 ?a85 ?l85 ?c85 ?k85 ?a86 ?l86 ?c86 ?k86 ?a87 ?l87 ?c87 ?k87 ?a88 ?l88 ?c88 ?k88 ?jC_RightsError ?u_RIGHTS ?v_RIGHTS ?u_MOST_RIGHTS ?u_SIGNS ?u_MOST_SIGNS ?u_MOST_STARS ?u_MOST_DEPTH ?u_MOST_NUMBER ?u_MOST_FUNCTIONS ?u_MOST_PARAMS ?u_MOST_IN_BODY ?u_MOST_STATEMENTS ?u_DIGITS ?u_MOST_DIGITS ?z_ValueError ?z_str ?z_type ?z_len ?z_all ?z_tuple ?z_int ?z_list ?z_isinstance ?z_set ?z_enumerate ?z_range ?z_abs ?z_min
    (case aC_RightsError => k_is)
    (case n_RightsError_reason => k_is)
    (case xL_RightsError => k_is)
    (case sa_RightsError => k_is)
    (case ga_RightsError => k_is)
    (case gg_RightsError => k_is)
    (case eC_RightsError => k_is)
    (case tC_RightsError => k_is)
    (case hC_RightsError => k_is)
    (case iC_RightsError => k_is)
    (case sC_RightsError => first | rfl | k_is)
    (case kC_RightsError => k_is)
    (case rC_RightsError => k_is)
    (case vC_RightsError => k_is)
    (case aC_TextError => k_is)
    (case n_TextError_line => k_is)
    (case n_TextError_reason => k_is)
    (case xL_TextError => k_is)
    (case sa_TextError => k_is)
    (case ga_TextError => k_is)
    (case gg_TextError => k_is)
    (case eC_TextError => k_is)
    (case tC_TextError => k_is)
    (case hC_TextError => k_is)
    (case iC_TextError => k_is)
    (case sC_TextError => first | rfl | k_is)
    (case kC_TextError => k_is)
    (case aC_Function => k_is)
    (case n_Function_name => k_is)
    (case n_Function_params => k_is)
    (case n_Function_body => k_is)
    (case pg_Function => k_is)
    (case hd_Function => k_is)
    (case po_Function => k_is)
    (case sa_Function => k_is)
    (case mk_Function => k_is)
    (case kc_Function => k_is)
    (case ha_Function => k_is)
    (case hm_Function => k_is)
    (case aC_Program => k_is)
    (case n_Program_functions => k_is)
    (case n_Program_statements => k_is)
    (case pg_Program => k_is)
    (case hd_Program => k_is)
    (case po_Program => k_is)
    (case sa_Program => k_is)
    (case mk_Program => k_is)
    (case kc_Program => k_is)
    (case ha_Program => k_is)
    (case hm_Program => k_is)
    (case aC_Reader => k_is)
    (case n_Reader_functions => k_is)
    (case n_Reader_statements => k_is)
    (case n_Reader_head => k_is)
    (case n_Reader_body => k_is)
    (case pg_Reader => k_is)
    (case hd_Reader => k_is)
    (case po_Reader => k_is)
    (case sa_Reader => k_is)
    (case mk_Reader => k_is)
    (case kc_Reader => k_is)
    (case ha_Reader => k_is)
    (case hm_Reader => k_is)
    (case hn_ => k_is)
    (case ht_ => k_is)
    (case vV => k_is)
    (case a0 => k_is)
    (case i0 => k_is)
    (case l0 => k_is)
    (case c0 => k_is)
    (case k0 => k_is)
    (case a1 => k_is)
    (case i1 => k_is)
    (case l1 => k_is)
    (case c1 => k_is)
    (case k1 => k_is)
    (case a2 => k_is)
    (case l2 => k_is)
    (case c2 => k_is)
    (case k2 => k_is)
    (case a3 => k_is)
    (case l3 => k_is)
    (case c3 => k_is)
    (case k3 => k_is)
    (case a4 => k_is)
    (case l4 => k_is)
    (case c4 => k_is)
    (case k4 => k_is)
    (case a5 => k_is)
    (case l5 => k_is)
    (case c5 => k_is)
    (case k5 => k_is)
    (case a6 => k_is)
    (case l6 => k_is)
    (case c6 => k_is)
    (case k6 => k_is)
    (case a7 => k_is)
    (case l7 => k_is)
    (case c7 => k_is)
    (case k7 => k_is)
    (case a8 => k_is)
    (case l8 => k_is)
    (case c8 => k_is)
    (case k8 => k_is)
    (case a9 => k_is)
    (case l9 => k_is)
    (case c9 => k_is)
    (case k9 => k_is)
    (case a10 => k_is)
    (case l10 => k_is)
    (case c10 => k_is)
    (case k10 => k_is)
    (case a11 => k_is)
    (case l11 => k_is)
    (case c11 => k_is)
    (case k11 => k_is)
    (case a12 => k_is)
    (case l12 => k_is)
    (case c12 => k_is)
    (case k12 => k_is)
    (case a13 => k_is)
    (case l13 => k_is)
    (case c13 => k_is)
    (case k13 => k_is)
    (case a14 => k_is)
    (case i14 => k_is)
    (case l14 => k_is)
    (case c14 => k_is)
    (case k14 => k_is)
    (case a15 => k_is)
    (case i15 => k_is)
    (case l15 => k_is)
    (case c15 => k_is)
    (case k15 => k_is)
    (case a16 => k_is)
    (case l16 => k_is)
    (case c16 => k_is)
    (case k16 => k_is)
    (case a17 => k_is)
    (case l17 => k_is)
    (case c17 => k_is)
    (case k17 => k_is)
    (case a18 => k_is)
    (case l18 => k_is)
    (case c18 => k_is)
    (case k18 => k_is)
    (case a19 => k_is)
    (case l19 => k_is)
    (case c19 => k_is)
    (case k19 => k_is)
    (case a20 => k_is)
    (case l20 => k_is)
    (case c20 => k_is)
    (case k20 => k_is)
    (case a21 => k_is)
    (case l21 => k_is)
    (case c21 => k_is)
    (case k21 => k_is)
    (case a22 => k_is)
    (case l22 => k_is)
    (case c22 => k_is)
    (case k22 => k_is)
    (case a23 => k_is)
    (case l23 => k_is)
    (case c23 => k_is)
    (case k23 => k_is)
    (case a24 => k_is)
    (case l24 => k_is)
    (case c24 => k_is)
    (case k24 => k_is)
    (case a25 => k_is)
    (case l25 => k_is)
    (case c25 => k_is)
    (case k25 => k_is)
    (case a26 => k_is)
    (case l26 => k_is)
    (case c26 => k_is)
    (case k26 => k_is)
    (case a27 => k_is)
    (case l27 => k_is)
    (case c27 => k_is)
    (case k27 => k_is)
    (case a28 => k_is)
    (case l28 => k_is)
    (case c28 => k_is)
    (case k28 => k_is)
    (case a29 => k_is)
    (case l29 => k_is)
    (case c29 => k_is)
    (case k29 => k_is)
    (case a30 => k_is)
    (case l30 => k_is)
    (case c30 => k_is)
    (case k30 => k_is)
    (case a31 => k_is)
    (case l31 => k_is)
    (case c31 => k_is)
    (case k31 => k_is)
    (case a32 => k_is)
    (case l32 => k_is)
    (case c32 => k_is)
    (case k32 => k_is)
    (case a33 => k_is)
    (case l33 => k_is)
    (case c33 => k_is)
    (case k33 => k_is)
    (case a34 => k_is)
    (case l34 => k_is)
    (case c34 => k_is)
    (case k34 => k_is)
    (case a35 => k_is)
    (case l35 => k_is)
    (case c35 => k_is)
    (case k35 => k_is)
    (case a36 => k_is)
    (case l36 => k_is)
    (case c36 => k_is)
    (case k36 => k_is)
    (case a37 => k_is)
    (case l37 => k_is)
    (case c37 => k_is)
    (case k37 => k_is)
    (case a38 => k_is)
    (case l38 => k_is)
    (case c38 => k_is)
    (case k38 => k_is)
    (case a39 => k_is)
    (case l39 => k_is)
    (case c39 => k_is)
    (case k39 => k_is)
    (case a40 => k_is)
    (case l40 => k_is)
    (case c40 => k_is)
    (case k40 => k_is)
    (case a41 => k_is)
    (case l41 => k_is)
    (case c41 => k_is)
    (case k41 => k_is)
    (case a42 => k_is)
    (case l42 => k_is)
    (case c42 => k_is)
    (case k42 => k_is)
    (case a43 => k_is)
    (case l43 => k_is)
    (case c43 => k_is)
    (case k43 => k_is)
    (case a44 => k_is)
    (case l44 => k_is)
    (case c44 => k_is)
    (case k44 => k_is)
    (case a45 => k_is)
    (case l45 => k_is)
    (case c45 => k_is)
    (case k45 => k_is)
    (case a46 => k_is)
    (case l46 => k_is)
    (case c46 => k_is)
    (case k46 => k_is)
    (case a47 => k_is)
    (case l47 => k_is)
    (case c47 => k_is)
    (case k47 => k_is)
    (case a48 => k_is)
    (case l48 => k_is)
    (case c48 => k_is)
    (case k48 => k_is)
    (case a49 => k_is)
    (case l49 => k_is)
    (case c49 => k_is)
    (case k49 => k_is)
    (case a50 => k_is)
    (case i50 => k_is)
    (case l50 => k_is)
    (case c50 => k_is)
    (case k50 => k_is)
    (case a51 => k_is)
    (case i51 => k_is)
    (case l51 => k_is)
    (case c51 => k_is)
    (case k51 => k_is)
    (case a52 => k_is)
    (case i52 => k_is)
    (case l52 => k_is)
    (case c52 => k_is)
    (case k52 => k_is)
    (case a53 => k_is)
    (case i53 => k_is)
    (case l53 => k_is)
    (case c53 => k_is)
    (case k53 => k_is)
    (case a54 => k_is)
    (case l54 => k_is)
    (case c54 => k_is)
    (case k54 => k_is)
    (case a55 => k_is)
    (case l55 => k_is)
    (case c55 => k_is)
    (case k55 => k_is)
    (case a56 => k_is)
    (case l56 => k_is)
    (case c56 => k_is)
    (case k56 => k_is)
    (case a57 => k_is)
    (case l57 => k_is)
    (case c57 => k_is)
    (case k57 => k_is)
    (case a58 => k_is)
    (case l58 => k_is)
    (case c58 => k_is)
    (case k58 => k_is)
    (case a59 => k_is)
    (case l59 => k_is)
    (case c59 => k_is)
    (case k59 => k_is)
    (case a60 => k_is)
    (case l60 => k_is)
    (case c60 => k_is)
    (case k60 => k_is)
    (case a61 => k_is)
    (case l61 => k_is)
    (case c61 => k_is)
    (case k61 => k_is)
    (case a62 => k_is)
    (case l62 => k_is)
    (case c62 => k_is)
    (case k62 => k_is)
    (case a63 => k_is)
    (case l63 => k_is)
    (case c63 => k_is)
    (case k63 => k_is)
    (case a64 => k_is)
    (case l64 => k_is)
    (case c64 => k_is)
    (case k64 => k_is)
    (case a65 => k_is)
    (case l65 => k_is)
    (case c65 => k_is)
    (case k65 => k_is)
    (case a66 => k_is)
    (case l66 => k_is)
    (case c66 => k_is)
    (case k66 => k_is)
    (case a67 => k_is)
    (case l67 => k_is)
    (case c67 => k_is)
    (case k67 => k_is)
    (case a68 => k_is)
    (case l68 => k_is)
    (case c68 => k_is)
    (case k68 => k_is)
    (case a69 => k_is)
    (case l69 => k_is)
    (case c69 => k_is)
    (case k69 => k_is)
    (case a70 => k_is)
    (case l70 => k_is)
    (case c70 => k_is)
    (case k70 => k_is)
    (case a71 => k_is)
    (case l71 => k_is)
    (case c71 => k_is)
    (case k71 => k_is)
    (case a72 => k_is)
    (case l72 => k_is)
    (case c72 => k_is)
    (case k72 => k_is)
    (case a73 => k_is)
    (case l73 => k_is)
    (case c73 => k_is)
    (case k73 => k_is)
    (case a74 => k_is)
    (case l74 => k_is)
    (case c74 => k_is)
    (case k74 => k_is)
    (case a75 => k_is)
    (case l75 => k_is)
    (case c75 => k_is)
    (case k75 => k_is)
    (case a76 => k_is)
    (case l76 => k_is)
    (case c76 => k_is)
    (case k76 => k_is)
    (case a77 => k_is)
    (case l77 => k_is)
    (case c77 => k_is)
    (case k77 => k_is)
    (case a78 => k_is)
    (case l78 => k_is)
    (case c78 => k_is)
    (case k78 => k_is)
    (case a79 => k_is)
    (case l79 => k_is)
    (case c79 => k_is)
    (case k79 => k_is)
    (case a80 => k_is)
    (case l80 => k_is)
    (case c80 => k_is)
    (case k80 => k_is)
    (case a81 => k_is)
    (case l81 => k_is)
    (case c81 => k_is)
    (case k81 => k_is)
    (case a82 => k_is)
    (case l82 => k_is)
    (case c82 => k_is)
    (case k82 => k_is)
    (case a83 => k_is)
    (case l83 => k_is)
    (case c83 => k_is)
    (case k83 => k_is)
    (case a84 => k_is)
    (case l84 => k_is)
    (case c84 => k_is)
    (case k84 => k_is)
    (case a85 => k_is)
    (case l85 => k_is)
    (case c85 => k_is)
    (case k85 => k_is)
    (case a86 => k_is)
    (case l86 => k_is)
    (case c86 => k_is)
    (case k86 => k_is)
    (case a87 => k_is)
    (case l87 => k_is)
    (case c87 => k_is)
    (case k87 => k_is)
    (case a88 => k_is)
    (case l88 => k_is)
    (case c88 => k_is)
    (case k88 => k_is)
    (case jC_RightsError => k_is)
    (case u_RIGHTS => k_is)
    (case v_RIGHTS => k_is)
    (case u_MOST_RIGHTS => k_is)
    (case u_SIGNS => k_is)
    (case u_MOST_SIGNS => k_is)
    (case u_MOST_STARS => k_is)
    (case u_MOST_DEPTH => k_is)
    (case u_MOST_NUMBER => k_is)
    (case u_MOST_FUNCTIONS => k_is)
    (case u_MOST_PARAMS => k_is)
    (case u_MOST_IN_BODY => k_is)
    (case u_MOST_STATEMENTS => k_is)
    (case u_DIGITS => k_is)
    (case u_MOST_DIGITS => k_is)
    (case z_ValueError => k_is)
    (case z_str => k_is)
    (case z_type => k_is)
    (case z_len => k_is)
    (case z_all => k_is)
    (case z_tuple => k_is)
    (case z_int => k_is)
    (case z_list => k_is)
    (case z_isinstance => k_is)
    (case z_set => k_is)
    (case z_enumerate => k_is)
    (case z_range => k_is)
    (case z_abs => k_is)
    (case z_min => k_is)
