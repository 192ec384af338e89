import PyProof.Rows.All
import Wide.All
import OpenK.AllK
import Wide.FinOn
import PyProof.EqAt
import PyProof.EqKinds
import PyProof.TupleCall
import Open.SpecLaws
import KE.OsGo
import PySem.Challenge.RW_linepatches_s01_answers
import HandS.ForSpec
import HandS.Comp
import HandS.Iter
import HandS.Text
import HandS.FStr
import HandS.IsInst
import HandS.CallLocal
import HandS.Codes
import HandS.Walk
import HandS.HeadHook4
import HandS.Head4
import HandS.Exc
import HandS.ExcInit
import HandS.ExcSuper
import HandS.ExcField
import HandS.ExcOwn
import HandS.ClsMeth
import PyVasedc
import HandS.Lambda
import HandS.Nested
import KE.DataMinKey
import KE.KLam
import VasedcSpec
import PyProof.ToksMono
import VasedaSpec
import HandS.Replace
import HandS.ReplaceList
import PyProof.StrLawsFirst
import KE.GoesEnumKw
import KE.GoesEnum
import HandS.More
import KE.GoesComp
import KE.KAsSuite
import HandS.Spec
import HandS.EndTab
set_option Elab.async false
set_option linter.all false
set_option maxRecDepth 100000
set_option maxHeartbeats 2000000
/-! The short words of this proof: the text by places, a def that may be called, texts as bytes. -/
namespace Lp
open PySem PySem.Spec PyProof.Rows L2
/-- the i-th statement of the program -/
def top (i : Nat) : Stmt := PySem.Challenge.pw_linepatches_s01_answers.main.body.getD i (.Pass ⟨0, 0, 0, 0⟩)
/-- a def of the module, under its name -/
structure Dfn (K : PySem.W.Frag) (mg : Str → Option Value) (x : Str) (st : Stmt) (ps : List Str) : Prop where
  ex : ∃ (f : Addr) (fd : FuncData), Fun K x x st f fd ∧ mg x = some (.ref f) ∧ Binds K fd ps []
/-- a def that may be called by its name -/
structure Ok (P : Program) (w : World) (K : PySem.W.Frag) (mg : Str → Option Value) (base : Heap) (k : Nat) (x : Str) (sp : Sp) : Prop where
  ex : ∃ (f : Addr) (fd : FuncData) (ps : List Str), FnOk P w K mg base (L2.CX P w) k f fd ps sp ∧ mg x = some (.ref f) ∧ PySem.W.keepIn K (.ref f) = true ∧ Binds K fd ps []
/-- a method, an __init__ that may be called -/
structure MOk (P : Program) (w : World) (K : PySem.W.Frag) (mg : Str → Option Value) (base : Heap) (k : Nat) (C : Addr) (m : Str) (sp : Sp) : Prop where
  ex : ∃ (f : Addr) (fd : FuncData) (ps : List Str), FnOk P w K mg base (L2.CX P w) k f fd ps sp ∧ Meth K C m f ∧ Binds K fd ps []
structure KOk (P : Program) (w : World) (K : PySem.W.Frag) (mg : Str → Option Value) (base : Heap) (k : Nat) (x : Str) (C : Addr) (sp : Sp) : Prop where
  ex : ∃ (f : Addr) (fd : FuncData) (ps : List Str), FnOk P w K mg base (L2.CX P w) k f fd ps sp ∧ Mk K C f ∧ Binds K fd ps [] ∧ mg x = some (.ref C)
/-- a module's name that stands for v -/
def Gv (mg : Str → Option Value) (x : Str) (v : V) : Prop := ∃ u, mg x = some u ∧ RelV v u
section
variable {P : Program} {w : World} {K : PySem.W.Frag} {mg : Str → Option Value} {base : Heap}
theorem fn_mk {x qual : Str} {st : Stmt} {N ps : List Str} {k : Nat} {sp : Sp} {f : Addr} {fd : FuncData} (F : Fun K x qual st f fd) (S : FnScope N ps (defScope st)) (len : ∀ vs H Q E, sp vs H Q E → vs.length = ps.length)
    (hbody : ∀ (cdv : Value) (A : Around) (outer : List Env) (s : Shared) (H : Hp) (vs : List V) (Q : VK) (E : XK), Room k (A.deeper (envOfC qual (defScope st) s.heap.objs.size f cdv)) →
      Takes (cxOf (L2.CX P w) P w K mg base N qual (defScope st) f cdv A outer s H E) (fun cls d _ H => E cls d H) → PassesOwn (model P w) (A.deeper (envOfC qual (defScope st) s.heap.objs.size f cdv)) (envOfC qual (defScope st) s.heap.objs.size f cdv) (cxOf (L2.CX P w) P w K mg base N qual (defScope st) f cdv A outer s H E).xe → sp vs H Q E →
      ∃ t, PSs (cxOf (L2.CX P w) P w K mg base N qual (defScope st) f cdv A outer s H E) (defBody st) t ∧ t { nx := fun _ H' => Q .non H', rt := Q } (start N vs) H) : FnOk P w K mg base (L2.CX P w) (k + 1) f fd ps sp :=
  F.okX S len fun cdv A outer s H vs Q E hr h => hbody cdv A outer s H vs Q E hr (takes_of rfl rfl rfl rfl) (passes_of (X := cxOf (L2.CX P w) P w K mg base N qual (defScope st) f cdv A outer s H E) rfl) h
theorem ok_mk {x : Str} {st : Stmt} {N ps : List Str} {k : Nat} {sp : Sp} (F : Dfn K mg x st ps) (S : FnScope N ps (defScope st)) (len : ∀ vs H Q E, sp vs H Q E → vs.length = ps.length)
    (hbody : ∀ (f : Addr) (cdv : Value) (A : Around) (outer : List Env) (s : Shared) (H : Hp) (vs : List V) (Q : VK) (E : XK), Room k (A.deeper (envOfC x (defScope st) s.heap.objs.size f cdv)) →
      Takes (cxOf (L2.CX P w) P w K mg base N x (defScope st) f cdv A outer s H E) (fun cls d _ H => E cls d H) → PassesOwn (model P w) (A.deeper (envOfC x (defScope st) s.heap.objs.size f cdv)) (envOfC x (defScope st) s.heap.objs.size f cdv) (cxOf (L2.CX P w) P w K mg base N x (defScope st) f cdv A outer s H E).xe → sp vs H Q E →
      ∃ t, PSs (cxOf (L2.CX P w) P w K mg base N x (defScope st) f cdv A outer s H E) (defBody st) t ∧ t { nx := fun _ H' => Q .non H', rt := Q } (start N vs) H) : Ok P w K mg base (k + 1) x sp := by
  obtain ⟨f, fd, F, hm, hb⟩ := F.ex
  exact ⟨f, fd, ps, F.okX S len fun cdv A outer s H vs Q E hr h => hbody f cdv A outer s H vs Q E hr (takes_of rfl rfl rfl rfl) (passes_of (X := cxOf (L2.CX P w) P w K mg base N x (defScope st) f cdv A outer s H E) rfl) h, hm, F.kp, hb⟩
end
section
variable {X : Cx} {k j : Nat} {x : Str} {sp : Sp} {W : WX} {p pos : Pos} {e : Expr} {es : List Expr} {t : TA}
/-- f(e, ..) -/
theorem pe_k (c : Ok X.prog X.w X.K X.mg X.base k x sp) (hr : Room j X.A) (tk : Takes X W) (ha : PA X (e :: es) t) (hk : k ≤ j := by decide) (hg : Gl X x := by rfl)
    (hdb : (x == ("__debug__" : Str)) = false := by decide) (he : starEach (e :: es) X.env = (false, eval e X.env) :: starEach es X.env := by rfl) (hpl : (backTo pos (starEach es X.env)).any (·.1) = false := by rfl) :
    PE X (.Call (.Name x p) (e :: es) [] pos) (tCallS sp (WE W) t) := by
  obtain ⟨f, fd, ps, F, hm, kp, b⟩ := c.ex
  exact pe_callS F (hr.mono hk) hg hm kp b (fun σ => passAt tk σ) ha hdb he hpl
/-- o.m(e, ..), o.m(), X(e, ..), X() -/
theorem pe_m {C : Addr} {m : Str} {E : XK} {o : Expr} {apos : Pos} {ta : TE} {pl : Sem Bool} (c : MOk X.prog X.w X.K X.mg X.base k C m sp) (cl : Cls X.K C) (hr : Room j X.A) (tk : Takes X fun cls d _ H => E cls d H) (he : PE X o ta) (ha : PA X (e :: es) t) (hk : k ≤ j := by decide)
    (hst : starEach (e :: es) X.env = (false, eval e X.env) :: starEach es X.env := by rfl) (hpl : (backTo pos (starEach es X.env)).any (·.1) = false := by rfl)
    (ht : eval (.Call (.Attribute o m apos) (e :: es) [] pos) X.env = (do
      let v ← eval o X.env
      standAt apos.atName
      let (f, first) ← holding [v] (getMethod v m pl)
      callWith pos f first (backTo pos (starEach (e :: es) X.env)) (backToKw pos (keywordEach [] X.env))) := by rfl) : PE X (.Call (.Attribute o m apos) (e :: es) [] pos) (tMeth C m sp [] E ta t) := by
  obtain ⟨f, fd, ps, F, hm, b⟩ := c.ex
  exact pe_meth he cl hm F (hr.mono hk) b .nil (passes_call tk fun _ _ _ _ z => z) ha hst hpl ht
theorem pe_m0 {C : Addr} {m : Str} {E : XK} {o : Expr} {apos : Pos} {ta : TE} {pl : Sem Bool} (c : MOk X.prog X.w X.K X.mg X.base k C m sp) (cl : Cls X.K C) (hr : Room j X.A) (tk : Takes X fun cls d _ H => E cls d H) (he : PE X o ta) (hk : k ≤ j := by decide)
    (ht : eval (.Call (.Attribute o m apos) [] [] pos) X.env = (do
      let v ← eval o X.env
      standAt apos.atName
      let (f, first) ← holding [v] (getMethod v m pl)
      callWith pos f first (backTo pos (starEach [] X.env)) (backToKw pos (keywordEach [] X.env))) := by rfl) : PE X (.Call (.Attribute o m apos) [] [] pos) (tMeth C m sp [] E ta tNil) := by
  obtain ⟨f, fd, ps, F, hm, b⟩ := c.ex
  exact pe_meth0 he cl hm F (hr.mono hk) b .nil (passes_call tk fun _ _ _ _ z => z) ht
theorem pe_mk {C : Addr} {E : XK} (c : KOk X.prog X.w X.K X.mg X.base k x C sp) (hr : Room j X.A) (tk : Takes X fun cls d _ H => E cls d H) (ha : PA X (e :: es) t) (hk : k + 1 ≤ j := by decide) (hg : Gl X x := by rfl) (hdb : (x == ("__debug__" : Str)) = false := by decide)
    (he : starEach (e :: es) X.env = (false, eval e X.env) :: starEach es X.env := by rfl) (hpl : (backTo pos (starEach es X.env)).any (·.1) = false := by rfl) : PE X (.Call (.Name x p) (e :: es) [] pos) (tMake C sp [] E t) := by
  obtain ⟨f, fd, ps, F, hm, b, g⟩ := c.ex
  exact pe_make hm F (hr.mono hk) hg g b .nil (passes_call tk fun _ _ _ _ z => z) ha hdb he hpl
theorem pe_mk0 {C : Addr} {E : XK} (c : KOk X.prog X.w X.K X.mg X.base k x C sp) (hr : Room j X.A) (tk : Takes X fun cls d _ H => E cls d H) (hk : k + 1 ≤ j := by decide) (hg : Gl X x := by rfl) (hdb : (x == ("__debug__" : Str)) = false := by decide) : PE X (.Call (.Name x p) [] [] pos) (tMake C sp [] E tNil) := by
  obtain ⟨f, fd, ps, F, hm, b, g⟩ := c.ex
  exact pe_make0 hm F (hr.mono hk) hg g b .nil (passes_call tk fun _ _ _ _ z => z) hdb
/-- a constant of the module -/
theorem pe_gv {v : V} (h : Gv X.mg x v) (hg : Gl X x := by rfl) (hd : (x == ("__debug__" : Str)) = false := by decide) : PE X (.Name x pos) (tC v) := by
  obtain ⟨u, hm, r⟩ := h
  exact pe_glob hg hm r hd
/-- len of a list, of a text -/
theorem call_lenL : CallR X (.builtin "len") (fun xs H Q => ∃ p ys, xs = [.ref p] ∧ SqL X.K H p ys ∧ Q (.int ys.length) H) := fun pins s σ H xs us Q I r h => by
  obtain ⟨p, ys, e, hs, q⟩ := h
  exact call_len_seq pins s σ H xs us Q I r ⟨p, ys, e, .inl hs, q⟩
theorem pe_len {te : TE} (hm : X.mg "len" = none) (he : PE X e te) (hg : Gl X "len" := by rfl) (hs : starEach [e] X.env = (false, eval e X.env) :: starEach [] X.env := by rfl) (hpl : (backTo pos (starEach [] X.env)).any (·.1) = false := by rfl) : PE X (.Call (.Name "len" p) [e] [] pos) (tCB (fun xs H Q => ∃ p ys, xs = [.ref p] ∧ SqL X.K H p ys ∧ Q (.int ys.length) H) (tCons te tNil)) :=
  pe_callB call_lenL hg hm PySem.boot_len (pa_cons he pa_nil hs) (he := hs) (hpl := hpl)
theorem pe_lenK {K : PySem.W.Frag} {te : TE} (hK : X.K = K) (hm : X.mg "len" = none) (he : PE X e te) (hg : Gl X "len" := by rfl) (hs : starEach [e] X.env = (false, eval e X.env) :: starEach [] X.env := by rfl) (hpl : (backTo pos (starEach [] X.env)).any (·.1) = false := by rfl) : PE X (.Call (.Name "len" p) [e] [] pos) (tCB (fun xs H Q => ∃ p ys, xs = [.ref p] ∧ SqL K H p ys ∧ Q (.int ys.length) H) (tCons te tNil)) := by
  subst hK
  exact pe_len hm he hg hs hpl
theorem pe_lenT {te : TE} (hm : X.mg "len" = none) (he : PE X e te) (hg : Gl X "len" := by rfl) (hs : starEach [e] X.env = (false, eval e X.env) :: starEach [] X.env := by rfl) (hpl : (backTo pos (starEach [] X.env)).any (·.1) = false := by rfl) : PE X (.Call (.Name "len" p) [e] [] pos) (tCB (fun xs H Q => ∃ z, xs = [.str z] ∧ z.length ≤ sizeLine ∧ Q (.int z.length) H) (tCons te tNil)) :=
  pe_callB call_len_str hg hm PySem.boot_len (pa_cons he pa_nil hs) (he := hs) (hpl := hpl)
end
/-- a text of the program, by its bytes -/
def toS (b : List UInt8) : Str := ⟨(b.map (·.toNat)).toArray⟩
abbrev sV (b : List UInt8) : V := .str (toS b)
theorem toS_inj {a b : List UInt8} (h : toS a = toS b) : a = b := by
  have h1 : a.map (·.toNat) = b.map (·.toNat) := by
    have := congrArg (fun s : Str => s.cps.toList) h
    simpa [toS] using this
  induction a generalizing b with
  | nil => cases b with
    | nil => rfl
    | cons _ _ => simp at h1
  | cons x a ih => cases b with
    | nil => simp at h1
    | cons y b =>
      simp only [List.map_cons, List.cons.injEq] at h1
      have e : x = y := UInt8.toNat.inj h1.1
      subst e
      rw [ih (b := b) (by unfold toS; rw [h1.2]) h1.2]
theorem toS_iff {a b : List UInt8} : toS a = toS b ↔ a = b := ⟨toS_inj, fun h => by rw [h]⟩
theorem sV_inj {a b : List UInt8} (h : sV a = sV b) : a = b := toS_inj (V.str.inj h)
theorem toS_len (b : List UInt8) : (toS b).length = b.length := by simp [toS, Str.length]
theorem toS_app (a b : List UInt8) : toS a ++ toS b = toS (a ++ b) := by
  show Str.append _ _ = _
  simp [toS, Str.append]
theorem toS_nil : toS [] = Str.empty := rfl
theorem toS_cps (b : List UInt8) : (toS b).cps.toList = b.map (·.toNat) := by simp [toS]
/-- the heap grows -/
theorem same_upd {H H' : Hp} {p : Addr} {o : HO} (e : Same H H') (h : H p = none) : Same H (upd H' p o) := fun b u q => by
  rw [upd_ne (ne_of_none q h)]
  exact e b u q
theorem same_new {H : Hp} {p : Addr} {o : HO} (h : H p = none) : Same H (upd H p o) := same_upd (Same.refl H) h
theorem sz_of {n : Nat} (h : n ≤ 100000) : n ≤ sizeLine := Nat.le_trans h (by decide)
theorem sz1 : (1 : Nat) ≤ sizeLine := by decide
theorem sz2 : (2 : Nat) ≤ sizeLine := by decide
theorem sz3 : (3 : Nat) ≤ sizeLine := by decide
theorem sz_lt {n : Nat} (h : n < 100000) : n < sizeLine := Nat.lt_of_lt_of_le h (by decide)
theorem sz16 {n : Nat} (h : n ≤ 16777216) : n ≤ sizeLine := by rw [sizeLine_eq]; exact h
theorem take_more {α : Type} {l : List α} {i : Nat} {x : α} (h : l[i]? = some x) : l.take (i + 1) = l.take i ++ [x] := by
  rw [List.take_add_one, h]; rfl
theorem drop_more {α : Type} {l : List α} {i : Nat} {x : α} (h : l[i]? = some x) : l.drop i = x :: l.drop (i + 1) := by
  obtain ⟨h1, h2⟩ := List.getElem?_eq_some_iff.mp h
  rw [← h2]; exact List.drop_eq_getElem_cons h1
theorem get_lt {α : Type} {l : List α} {i : Nat} {x : α} (h : l[i]? = some x) : i < l.length := (List.getElem?_eq_some_iff.mp h).1
theorem map_get {α β : Type} {f : α → β} {l : List α} {i : Nat} {y : β} (h : (l.map f)[i]? = some y) : ∃ x, l[i]? = some x ∧ y = f x := by
  rw [List.getElem?_map] at h
  cases e : l[i]? with
  | none => rw [e] at h; cases h
  | some x => rw [e] at h; exact ⟨x, rfl, (Option.some.inj h).symm⟩
theorem get_of_lt {α : Type} {l : List α} {i : Nat} (h : i < l.length) : ∃ x, l[i]? = some x := ⟨l[i], List.getElem?_eq_getElem h⟩
theorem at_n {α : Type} {xs : List α} {z : Int} {j : Nat} {v : α} (h : xs[j]? = some v) (e : z = (j : Int)) : atI xs z = some v := by rw [e]; exact atI_nat h
/-- what a list of objects holds, one by one -/
structure AllAt {α : Type} (R : Addr → α → Prop) (rs : List Addr) (ms : List α) : Prop where
  len : rs.length = ms.length
  at_ : ∀ (i : Nat) r m, rs[i]? = some r → ms[i]? = some m → R r m
section
variable {α : Type} {R R' : Addr → α → Prop} {rs rs' : List Addr} {ms ms' : List α}
theorem AllAt.nil : AllAt R [] [] := ⟨rfl, fun i r m h => by simp at h⟩
theorem AllAt.app (a : AllAt R rs ms) (b : AllAt R rs' ms') : AllAt R (rs ++ rs') (ms ++ ms') := ⟨by rw [List.length_append, List.length_append, a.len, b.len], fun i r m h1 h2 => by
  by_cases h : i < rs.length
  · rw [List.getElem?_append_left h] at h1
    rw [List.getElem?_append_left (by rw [← a.len]; exact h)] at h2
    exact a.at_ i r m h1 h2
  · rw [List.getElem?_append_right (by omega)] at h1
    rw [List.getElem?_append_right (by rw [← a.len]; omega), ← a.len] at h2
    exact b.at_ _ r m h1 h2⟩
theorem AllAt.one {r : Addr} {m : α} (h : R r m) : AllAt R [r] [m] := ⟨rfl, fun i r' m' h1 h2 => by
  cases i with
  | zero => cases h1; cases h2; exact h
  | succ i => simp at h1⟩
theorem AllAt.snoc {r : Addr} {m : α} (a : AllAt R rs ms) (h : R r m) : AllAt R (rs ++ [r]) (ms ++ [m]) := a.app (.one h)
theorem AllAt.mono (a : AllAt R rs ms) (h : ∀ r m, r ∈ rs → m ∈ ms → R r m → R' r m) : AllAt R' rs ms := ⟨a.len, fun i r m h1 h2 => h r m (List.mem_of_getElem? h1) (List.mem_of_getElem? h2) (a.at_ i r m h1 h2)⟩
theorem AllAt.get (a : AllAt R rs ms) {i : Nat} {r : Addr} (h : rs[i]? = some r) : ∃ m, ms[i]? = some m ∧ R r m := by
  obtain ⟨m, hm⟩ := get_of_lt (l := ms) (i := i) (by rw [← a.len]; exact get_lt h)
  exact ⟨m, hm, a.at_ i r m h hm⟩
theorem AllAt.get' (a : AllAt R rs ms) {i : Nat} {m : α} (h : ms[i]? = some m) : ∃ r, rs[i]? = some r ∧ R r m := by
  obtain ⟨r, hr⟩ := get_of_lt (l := rs) (i := i) (by rw [a.len]; exact get_lt h)
  exact ⟨r, hr, a.at_ i r m hr h⟩
theorem AllAt.rev (a : AllAt R rs ms) : AllAt R rs.reverse ms.reverse := ⟨by rw [List.length_reverse, List.length_reverse, a.len], fun i r m h1 h2 => by
  have l1 := get_lt h1
  rw [List.length_reverse] at l1
  rw [List.getElem?_reverse l1] at h1
  rw [List.getElem?_reverse (by rw [← a.len]; exact l1), ← a.len] at h2
  exact a.at_ _ r m h1 h2⟩
theorem AllAt.take (a : AllAt R rs ms) (n : Nat) : AllAt R (rs.take n) (ms.take n) := ⟨by rw [List.length_take, List.length_take, a.len], fun i r m h1 h2 => by
  rw [List.getElem?_take] at h1 h2
  split at h1
  · rename_i c
    rw [if_pos c] at h2
    exact a.at_ i r m h1 h2
  · cases h1⟩
theorem AllAt.drop (a : AllAt R rs ms) (n : Nat) : AllAt R (rs.drop n) (ms.drop n) := ⟨by rw [List.length_drop, List.length_drop, a.len], fun i r m h1 h2 => by
  rw [List.getElem?_drop] at h1 h2
  exact a.at_ _ r m h1 h2⟩
end
/-- the tuples stay -/
def KeepT (H H' : Hp) : Prop := ∀ a vs, H a = some (.tup vs) → H' a = some (.tup vs)
theorem KeepT.of {H H' : Hp} (e : Same H H') : KeepT H H' := fun a vs h => e a _ h
theorem KeepT.refl (H : Hp) : KeepT H H := fun _ _ h => h
theorem KeepT.trans {H H1 H2 : Hp} (a : KeepT H H1) (b : KeepT H1 H2) : KeepT H H2 := fun x vs h => b x vs (a x vs h)
theorem KeepT.upL {H : Hp} {p : Addr} {xs : List V} {o : HO} (h : H p = some (.lst xs)) : KeepT H (upd H p o) := fun a vs q => by
  rw [upd_ne (ne_of q h (by intro z; cases z))]
  exact q
theorem KeepT.upN {H : Hp} {p : Addr} {o : HO} (h : H p = none) : KeepT H (upd H p o) := fun a vs q => by
  rw [upd_ne (ne_of_none q h)]
  exact q
/-- a new object at p, all else as it was -/
def New (H : Hp) (Q : VK) (R : Hp → Addr → Prop) : Prop := ∀ H' p, Same H H' → H p = none → R H' p → Q (.ref p) H'
abbrev NewL (H : Hp) (Q : VK) (xs : List V) : Prop := New H Q fun H' p => H' p = some (.lst xs)
/-- a list of tuples -/
def TupL {α : Type} (f : α → List V) (H : Hp) (D : Addr) (ms : List α) : Prop := ∃ rs : List Addr, H D = some (.lst (rs.map V.ref)) ∧ AllAt (fun r m => H r = some (.tup (f m))) rs ms
section
variable {α : Type} {f : α → List V} {H H' : Hp} {D T : Addr} {ms : List α} {m : α} {acc : List V}
theorem TupL.nil (h : H D = some (.lst [])) : TupL f H D [] := ⟨[], h, .nil⟩
theorem TupL.keep (t : TupL f H D ms) (h : H' D = H D) (k : KeepT H H') : TupL f H' D ms := by
  obtain ⟨rs, h1, h2⟩ := t
  exact ⟨rs, by rw [h]; exact h1, h2.mono fun r m _ _ q => k r _ q⟩
theorem TupL.same (t : TupL f H D ms) (e : Same H H') : TupL f H' D ms := by
  obtain ⟨rs, h1, h2⟩ := t
  exact ⟨rs, e D _ h1, h2.mono fun r m _ _ q => e r _ q⟩
theorem TupL.push (t : TupL f H D ms) (hT : H T = some (.tup (f m))) (hd : H D = some (.lst acc)) : TupL f (upd H D (.lst (acc ++ [.ref T]))) D (ms ++ [m]) := by
  obtain ⟨rs, h1, h2⟩ := t
  have e : acc = rs.map V.ref := by rw [h1] at hd; cases hd; rfl
  refine ⟨rs ++ [T], by rw [upd_same, e, List.map_append]; rfl, ?_⟩
  exact (h2.mono fun r m _ _ q => KeepT.upL hd r _ q).snoc (KeepT.upL hd T _ hT)
theorem TupL.len (t : TupL f H D ms) (hd : H D = some (.lst acc)) : acc.length = ms.length := by
  obtain ⟨rs, h1, h2⟩ := t
  rw [h1] at hd; cases hd
  rw [List.length_map, h2.len]
theorem TupL.at_ (t : TupL f H D ms) : ∃ acc, H D = some (.lst acc) := by
  obtain ⟨rs, h1, h2⟩ := t
  exact ⟨_, h1⟩
end
/-- a comprehension's list while it grows -/
def CInv (H : Hp) (D : Addr) (acc : List V) (H' : Hp) : Prop := H' D = some (.lst acc) ∧ Same H H'
theorem CInv.zero {H : Hp} {D : Addr} (h : H D = none) : CInv H D [] (upd H D (.lst [])) := ⟨upd_same, same_new h⟩
theorem CInv.snoc {H H' H'' : Hp} {D : Addr} {acc acc' : List V} {y : V} (c : CInv H D acc H') (h : H D = none) (e : Same H' H'') (q : acc' = acc ++ [y]) : CInv H D acc' (upd H'' D (.lst (acc ++ [y]))) :=
  ⟨by rw [q]; exact upd_same, same_upd (fun b u z => e b u (c.2 b u z)) h⟩
theorem same_trans {H H1 H2 : Hp} (a : Same H H1) (b : Same H1 H2) : Same H H2 := fun x u z => b x u (a x u z)
theorem none_back {H H0 : Hp} {D : Addr} (e : Same H H0) (h : H0 D = none) : H D = none := by
  cases q : H D with
  | none => rfl
  | some u => rw [e D u q] at h; cases h
/-- a list at D that grows in place -/
theorem CInv.more {H H' H'' : Hp} {D : Addr} {acc acc' acc2 : List V} (c : CInv H D acc H') (h : H D = none) (e : Same H' H'') (q : acc2 = acc') : CInv H D acc2 (upd H'' D (.lst acc')) :=
  ⟨by rw [q]; exact upd_same, same_upd (fun b u z => e b u (c.2 b u z)) h⟩
/-- an if whose test is known -/
theorem if_t {c : Bool} {A B : Prop} (hc : c = true) (h : A) : if c = true then A else B := by rw [if_pos hc]; exact h
theorem if_f {c : Bool} {A B : Prop} (hc : c = false) (h : B) : if c = true then A else B := by rw [hc, if_neg Bool.false_ne_true]; exact h
theorem if_2 {c : Bool} {A B : Prop} (h1 : c = true → A) (h2 : c = false → B) : if c = true then A else B := by
  cases c with
  | true => exact if_t rfl (h1 rfl)
  | false => exact if_f rfl (h2 rfl)
theorem if_and {c1 c2 : Bool} {S B O : Prop} (h : (if c2 = true then B else O) → S) (hB : c1 = true → c2 = true → B) (hO : c1 = false ∨ c2 = false → O) : if c1 = true then S else O := by
  cases c1 with
  | false => exact if_f rfl (hO (.inl rfl))
  | true => exact if_t rfl (h (if_2 (hB rfl) fun z => hO (.inr z)))
theorem if_or {c1 c2 : Bool} {S B O : Prop} (h : (if c2 = true then B else O) → S) (hB : c1 = true ∨ c2 = true → B) (hO : c1 = false → c2 = false → O) : if c1 = true then B else S := by
  cases c1 with
  | true => exact if_t rfl (hB (.inl rfl))
  | false => exact if_f rfl (h (if_2 (fun z => hB (.inr z)) (hO rfl)))
theorem cutV_from (xs : List V) (i : Nat) : cutV xs (some (i : Int)) none = xs.drop i := by
  unfold cutV
  rw [HT.sIx_nat, HT.sIx_none]
  by_cases h : i ≤ xs.length
  · rw [Nat.min_eq_left h, List.take_of_length_le (by rw [List.length_drop]; omega)]
  · rw [Nat.min_eq_right (by omega), Nat.sub_self, List.drop_length, List.drop_eq_nil_of_le (by omega)]; rfl
theorem cutV_two (xs : List V) (i j : Nat) (h : j ≤ xs.length) : cutV xs (some (i : Int)) (some (j : Int)) = (xs.drop i).take (j - i) := by
  unfold cutV
  rw [HT.sIx_nat, HT.sIx_nat, Nat.min_eq_left h]
  by_cases h : i ≤ xs.length
  · rw [Nat.min_eq_left h]
  · rw [Nat.min_eq_right (by omega), List.drop_length, List.drop_eq_nil_of_le (by omega)]; simp
end Lp
set_option maxRecDepth 100000
set_option maxHeartbeats 4000000
/-! What the head tells, by names. -/
namespace Lp
open PySem PySem.Spec PyProof.Rows L2
def dD (x : Str) (i : Nat) : He.DefD := ⟨(x, none), x, x, defArgs (top i), defBody (top i), defScope (top i), [], []⟩
def dM (C m qual : Str) (i j : Nat) : He.DefD := ⟨(C, some m), m, qual, defArgs (inClass (top i) j), defBody (inClass (top i) j), defScope (inClass (top i) j), [], []⟩
def tailE (K : PySem.W.Frag) : Option Str → List Value
  | none => PySem.ESX.exTail
  | some r => .ref (He.ga K r) :: PySem.ESX.exTail
def clsE (K : PySem.W.Frag) (C : Addr) (bm : List Value) : Bool := match K.lookup C with
  | some ⟨.type t, _, .cls cd, sl⟩ => (match cd.mro, sl.toList with
    | .ref C' :: bm', [_, _, _, _, some (.builtin n), _] => decide (t = "type") && (decide (C' = C) && (decide (bm' = bm) && (decide (n = "Exception.__new__") && (cd.hasDict && !cd.hasDel))))
    | _, _ => false)
  | _ => false
def exE (K : PySem.W.Frag) (x : Str) (r : Option Str) : Bool := clsE K (He.ga K x) (tailE K r) && (He.eqO (PySem.W.findIn K (.ref (He.ga K x)) "__setattr__") (some (some (.builtin "object.__setattr__"))) &&
  (decide (PySem.W.subIn K (.ref (He.ga K x)) (.type "BaseException") = some true) && (decide (PySem.W.typeIn K (.ref (He.ga K x)) = some (.type "type")) && PySem.W.keepIn K (.ref (He.ga K x)))))
def iniE (K : PySem.W.Frag) (x : Str) : Bool := He.eqO (PySem.W.findIn K (.ref (He.ga K x)) "__init__") (some (some (.ref (He.ma K (He.ga K x) "__init__")))) && decide (PySem.W.typeIn K (.ref (He.ma K (He.ga K x) "__init__")) = some (.type "function"))
def noE (K : PySem.W.Frag) (x : Str) (fs : List Str) : Bool := fs.all fun f => He.eqO (PySem.W.findIn K (.ref (He.ga K x)) f) (some none)
def clE (K : PySem.W.Frag) (x m : Str) : Bool := PySem.W.readsIn K (He.ga K x) (.type "type") && (He.eqO (PySem.W.specialIn K (.ref (He.ga K x)) "__getattribute__") (some (some (.builtin "type.__getattribute__"))) &&
  (match PySem.W.findCls K (.ref (He.ga K x)) (.type "type") m with
    | some (.val u) => decide (u = .ref (He.ma K (He.ga K x) m))
    | _ => false))
def tupA (K : PySem.W.Frag) (a : Addr) (vs : List V) : Bool := match K.lookup a with
  | some ⟨.type t, _, .seq its _, _⟩ => decide (t = "tuple") && (decide (its.size ≤ sizeLine) && He.relAll vs its.toList)
  | _ => false
def callE (K : PySem.W.Frag) (es : Array DictEntry) (q : Nat × Nat × Str) : Bool := match findBy Value.isInt es (q.1 : Int) with
  | some (.ref t) => tupA K t [.int (q.2.1 : Int), .ref (He.ga K q.2.2)]
  | _ => false
def intE (e : DictEntry) : Bool := match e.key with
  | .int j _ => decide (e.hash = hashInt j)
  | _ => false
def callsE (K : PySem.W.Frag) (a : Addr) (l : List (Nat × Nat × Str)) : Bool := match K.lookup a with
  | some ⟨.type t, none, .dict es _, sl⟩ => decide (t = "dict") && (sl.isEmpty && (es.toList.all intE && l.all (callE K es)))
  | _ => false
def faL0 : List He.Fa := [(.free "len"), (.free "max"), (.free "min"), (.free "ord"), (.free "abs"), (.free "sum"), (.free "isinstance"), (.free "range"), (.free "reversed"), (.free "enumerate"), (.free "int"), (.str "LETTERS" "abcdefghijklmnopqrstuvwxyz"), (.int "FIRST_LETTER" 97), (.int "LAST_LETTER" 122), (.int "LINE_END" 10), (.int "KEPT" 0), (.int "TAKEN_OUT" 1), (.int "PUT_IN" 2), (.int "MOST_AROUND" 2), (.int "MOST_BYTES" 4096), (.int "LONGEST_WORD" 8), (.int "GREATEST_NUMBER" 1000000000), (.int "MOST_DIGITS" 10), (.glo "BLANKS"), (.int "REMARK" 35)]
def faL1 : List He.Fa := [(.int "SEMICOLON" 59), (.int "FIRST_DIGIT" 48), (.int "LAST_DIGIT" 57), (.str "SIGN" ";"), (.str "END" ""), (.glo "OWN_WORDS"), (.int "MOST_COMMANDS" 16), (.int "MOST_NOTS" 3), (.int "GREATEST_LINE" 99), (.int "GREATEST_SKIP" 9), (.glo "BARE_ADDRESSES"), (.glo "LETTERS_ADDRESSES"), (.glo "BARE_DEEDS"), (.glo "LETTERS_DEEDS"), (.glo "SWAP_DEEDS"), (.int "MOST_LETTERS" 16), (.int "MOST_LINES" 24), (.int "MOST_RESULT_LINES" 60), (.glo "is_letter"), (.glo "letter_of"), (.glo "bytes_of"), (.glo "least_patch"), (.glo "common_counts"), (.glo "counts_with"), (.glo "turned_round")]
def faL2 : List He.Fa := [(.glo "other_way"), (.glo "one_behind_other"), (.glo "marks_of_both"), (.glo "cost_of"), (.glo "told_patch"), (.glo "changes_of"), (.glo "keep_behind"), (.glo "add_to"), (.glo "told_changes"), (.glo "put_to"), (.glo "places_of"), (.glo "nearest_to"), (.glo "is_letters"), (.glo "is_digit"), (.glo "tokens_of"), (.glo "past_blanks"), (.glo "token_end"), (.glo "run_end"), (.glo "token_value"), (.glo "word_value"), (.glo "number_value"), (.glo "commands_of"), (.glo "read_command"), (.glo "read_address"), (.glo "read_plain_address")]
def faL3 : List He.Fa := [(.glo "read_deed"), (.glo "read_letters_or_none"), (.glo "numbered_script"), (.glo "command_to_put_in"), (.glo "told_script"), (.glo "lines_of"), (.glo "told_text"), (.glo "result_of"), (.glo "go_through"), (.glo "lines_from"), (.glo "holds"), (.glo "set_swapped"), (.glo "do_delete"), (.glo "do_stop"), (.glo "do_before"), (.glo "do_after"), (.glo "do_bring"), (.glo "do_change"), (.glo "do_swap"), (.glo "do_first"), (.glo "do_keep"), (.glo "do_trade"), (.glo "do_skip"), (.glo "call_load"), (.glo "call_diff")]
def faL4 : List He.Fa := [(.glo "call_patch"), (.glo "call_script"), (.glo "call_undo"), (.glo "call_drift"), (.glo "call_both"), (.glo "call_hunks"), (.glo "patch_between"), (.glo "patch_by_run"), (.glo "answers"), (.glo "rows_from"), (.glo "answer_of"), (.cls "Change"), (.glo "Change"), (.mkr "Change"), (.cls "Token"), (.glo "Token"), (.mkr "Token"), (.cls "Command"), (.glo "Command"), (.mkr "Command"), (.cls "Reader"), (.glo "Reader"), (.mkr "Reader"), (.meth "Reader" "following"), (.meth "Reader" "take")]
def faL5 : List He.Fa := [(.meth "Reader" "take_just"), (.meth "Reader" "take_number"), (.meth "Reader" "take_letters"), (.cls "Spot"), (.glo "Spot"), (.mkr "Spot"), (.cls "Holder"), (.glo "Holder"), (.mkr "Holder"), (.glo "Fault"), (.glo "ChangeNotPut"), (.glo "Refusal"), (.glo "NoScriptHeld"), (.glo "NotAText"), (.glo "NoScriptForPatch"), (.glo "TooMuch"), (.exm "Fault" "Fault" true), (.exm "ChangeNotPut" "ChangeNotPut" true), (.exm "NoScriptHeld" "Refusal" true), (.exm "NotAText" "Refusal" true), (.exm "NoScriptForPatch" "Refusal" true), (.exm "TooMuch" "Refusal" true), (.glo "DEEDS"), (.glo "CALLS")]
def faL : List He.Fa := faL0 ++ (faL1 ++ (faL2 ++ (faL3 ++ (faL4 ++ (faL5)))))
def fnL0 : List He.DefD := [(dD "is_letter" 5), (dD "letter_of" 6), (dD "bytes_of" 7), (dD "least_patch" 12), (dD "common_counts" 13), (dD "counts_with" 14), (dD "turned_round" 15), (dD "other_way" 16), (dD "one_behind_other" 17), (dD "marks_of_both" 18), (dD "cost_of" 19), (dD "told_patch" 20), (dD "changes_of" 24), (dD "keep_behind" 25), (dD "add_to" 26), (dD "told_changes" 27), (dD "put_to" 37), (dD "places_of" 38), (dD "nearest_to" 39), (dD "is_letters" 54), (dD "is_digit" 55), (dD "tokens_of" 56), (dD "past_blanks" 57), (dD "token_end" 58), (dD "run_end" 59)]
def fnL1 : List He.DefD := [(dD "token_value" 60), (dD "word_value" 61), (dD "number_value" 62), (dD "commands_of" 75), (dD "read_command" 76), (dD "read_address" 77), (dD "read_plain_address" 78), (dD "read_deed" 79), (dD "read_letters_or_none" 80), (dD "numbered_script" 82), (dD "command_to_put_in" 83), (dD "told_script" 84), (dD "lines_of" 88), (dD "told_text" 89), (dD "result_of" 93), (dD "go_through" 94), (dD "lines_from" 95), (dD "holds" 96), (dD "set_swapped" 97), (dD "do_delete" 98), (dD "do_stop" 99), (dD "do_before" 100), (dD "do_after" 101), (dD "do_bring" 102), (dD "do_change" 103)]
def fnL2 : List He.DefD := [(dD "do_swap" 104), (dD "do_first" 105), (dD "do_keep" 106), (dD "do_trade" 107), (dD "do_skip" 108), (dD "call_load" 112), (dD "call_diff" 113), (dD "call_patch" 114), (dD "call_script" 115), (dD "call_undo" 116), (dD "call_drift" 117), (dD "call_both" 118), (dD "call_hunks" 119), (dD "patch_between" 120), (dD "patch_by_run" 121), (dD "answers" 123), (dD "rows_from" 124), (dD "answer_of" 125), (dM "Change" "__init__" "Change.__init__" 23 0), (dM "Token" "__init__" "Token.__init__" 53 0), (dM "Command" "__init__" "Command.__init__" 73 0), (dM "Reader" "__init__" "Reader.__init__" 74 0), (dM "Reader" "following" "Reader.following" 74 1), (dM "Reader" "take" "Reader.take" 74 2), (dM "Reader" "take_just" "Reader.take_just" 74 3)]
def fnL3 : List He.DefD := [(dM "Reader" "take_number" "Reader.take_number" 74 4), (dM "Reader" "take_letters" "Reader.take_letters" 74 5), (dM "Spot" "__init__" "Spot.__init__" 92 0), (dM "Holder" "__init__" "Holder.__init__" 111 0), (dM "Fault" "__init__" "Fault.__init__" 29 0), (dM "ChangeNotPut" "__init__" "ChangeNotPut.__init__" 30 0), (dM "Refusal" "__init__" "Refusal.__init__" 31 0), (dM "NoScriptHeld" "__init__" "NoScriptHeld.__init__" 32 0), (dM "NotAText" "__init__" "NotAText.__init__" 33 0), (dM "NoScriptForPatch" "__init__" "NoScriptForPatch.__init__" 34 0), (dM "TooMuch" "__init__" "TooMuch.__init__" 35 0)]
def fnL : List He.DefD := fnL0 ++ (fnL1 ++ (fnL2 ++ (fnL3)))
def exsL0 : List (PySem.W.Frag → Bool) := [fun K => He.tupB K "BLANKS" [.int 32, .int 9, .int 10], fun K => He.tupB K "OWN_WORDS" [.str "if", .str "all", .str "line", .str "from", .str "to", .str "last", .str "has", .str "is", .str "not", .str "delete", .str "before", .str "after", .str "change", .str "swap", .str "first", .str "keep", .str "bring", .str "trade", .str "skip", .str "stop", .str "none"], fun K => He.tupB K "BARE_ADDRESSES" [.str "all", .str "last"], fun K => He.tupB K "LETTERS_ADDRESSES" [.str "has", .str "is"], fun K => He.tupB K "BARE_DEEDS" [.str "delete", .str "keep", .str "bring", .str "trade", .str "stop"], fun K => He.tupB K "LETTERS_DEEDS" [.str "before", .str "after", .str "change"], fun K => He.tupB K "SWAP_DEEDS" [.str "swap", .str "first"], fun K => noE K "Change" ["place", "before", "taken_out", "put_in", "behind"], fun K => noE K "Token" ["value", "place"], fun K => noE K "Command" ["address", "deed"], fun K => noE K "Reader" ["tokens", "taken"], fun K => noE K "Spot" ["line", "number", "is_last", "held", "ahead", "behind", "deleted", "ended", "left_out"], fun K => noE K "Holder" ["commands"], fun K => exE K "Fault" none, fun K => iniE K "Fault", fun K => noE K "Fault" ["code", "place"], fun K => xfB K (He.ga K "Fault"), fun K => exE K "ChangeNotPut" none, fun K => iniE K "ChangeNotPut", fun K => noE K "ChangeNotPut" ["number"], fun K => xfB K (He.ga K "ChangeNotPut"), fun K => exE K "Refusal" none, fun K => iniE K "Refusal", fun K => noE K "Refusal" ["number"], fun K => xfB K (He.ga K "Refusal")]
def exsL1 : List (PySem.W.Frag → Bool) := [fun K => clE K "Refusal" "__init__", fun K => exE K "NoScriptHeld" (some "Refusal"), fun K => iniE K "NoScriptHeld", fun K => noE K "NoScriptHeld" ["number"], fun K => xfB K (He.ga K "NoScriptHeld"), fun K => exE K "NotAText" (some "Refusal"), fun K => iniE K "NotAText", fun K => noE K "NotAText" ["number"], fun K => xfB K (He.ga K "NotAText"), fun K => exE K "NoScriptForPatch" (some "Refusal"), fun K => iniE K "NoScriptForPatch", fun K => noE K "NoScriptForPatch" ["number"], fun K => xfB K (He.ga K "NoScriptForPatch"), fun K => exE K "TooMuch" (some "Refusal"), fun K => iniE K "TooMuch", fun K => noE K "TooMuch" ["number"], fun K => xfB K (He.ga K "TooMuch"), fun K => PySem.W.nsOkIn K cStatics, fun K => He.eqO (PySem.W.nsIn K cStatics sharingNotToldKey) (some none), fun K => He.valsB K (He.ga K "DEEDS") [("delete", .glo "do_delete"), ("stop", .glo "do_stop"), ("before", .glo "do_before"), ("after", .glo "do_after"), ("bring", .glo "do_bring"), ("change", .glo "do_change"), ("swap", .glo "do_swap"), ("first", .glo "do_first"), ("keep", .glo "do_keep"), ("trade", .glo "do_trade"), ("skip", .glo "do_skip")], fun K => callsE K (He.ga K "CALLS") [(0, 1, "call_load"), (1, 2, "call_diff"), (2, 1, "call_patch"), (3, 2, "call_script"), (4, 1, "call_undo"), (5, 3, "call_drift"), (6, 3, "call_both"), (7, 2, "call_hunks")]]
def exsL : List (PySem.W.Frag → Bool) := exsL0 ++ (exsL1)
def exL (K : PySem.W.Frag) : Bool := exsL.all fun p => p K
def tD : He.Tab := (fun K => He.ga K "DEEDS", ["delete", "stop", "before", "after", "bring", "change", "swap", "first", "keep", "trade", "skip"])
def tsL : List He.Tab := [tD]
def tfL : List He.Defn := [("nearest_to", none)]
end Lp
set_option maxRecDepth 100000
set_option maxHeartbeats 0
/-! The top, run. -/
namespace Lp
open PySem PySem.W PySem.Calls PyProof.Rows
abbrev rowL : OpenSpec := PySem.Challenge.rw_linepatches_s01_answers
def seenL : Program := view rowL.prog [39, 123]
def restL0 : List PySem.Str := ["LETTERS", "FIRST_LETTER", "LAST_LETTER", "LINE_END", "is_letter", "letter_of", "bytes_of", "KEPT", "TAKEN_OUT", "PUT_IN", "least_patch", "common_counts", "counts_with", "turned_round", "other_way", "one_behind_other", "marks_of_both", "cost_of", "told_patch", "MOST_AROUND", "Change", "changes_of", "keep_behind", "add_to", "told_changes", "Fault", "ChangeNotPut", "Refusal", "NoScriptHeld", "NotAText"]
def restL1 : List PySem.Str := ["NoScriptForPatch", "TooMuch", "put_to", "places_of", "MOST_BYTES", "LONGEST_WORD", "GREATEST_NUMBER", "MOST_DIGITS", "BLANKS", "REMARK", "SEMICOLON", "FIRST_DIGIT", "LAST_DIGIT", "SIGN", "END", "OWN_WORDS", "Token", "is_letters", "is_digit", "tokens_of", "past_blanks", "token_end", "run_end", "token_value", "word_value", "number_value", "MOST_COMMANDS", "MOST_NOTS", "GREATEST_LINE", "GREATEST_SKIP"]
def restL2 : List PySem.Str := ["BARE_ADDRESSES", "LETTERS_ADDRESSES", "BARE_DEEDS", "LETTERS_DEEDS", "SWAP_DEEDS", "Command", "Reader", "commands_of", "read_command", "read_address", "read_plain_address", "read_deed", "read_letters_or_none", "numbered_script", "command_to_put_in", "told_script", "MOST_LETTERS", "MOST_LINES", "lines_of", "told_text", "MOST_RESULT_LINES", "Spot", "result_of", "go_through", "lines_from", "holds", "set_swapped", "do_delete", "do_stop", "do_before"]
def restL3 : List PySem.Str := ["do_after", "do_bring", "do_change", "do_swap", "do_first", "do_keep", "do_trade", "do_skip", "DEEDS", "Holder", "call_load", "call_diff", "call_patch", "call_script", "call_undo", "call_drift", "call_both", "call_hunks", "patch_between", "patch_by_run", "CALLS", "rows_from", "answer_of"]
def restL : List PySem.Str := restL0 ++ (restL1 ++ (restL2 ++ (restL3)))
def whereL : List Addr := [3, 106, 107, 153, 154, 173, 174, 193, 194, 213, 214, 232, 233, 251, 252, 270, 271, 310, 311, 397, 398, 453, 454, 549, 550, 667, 683, 684, 755, 2, 20, 21, 27, 28, 32, 33, 37, 38, 44, 45, 51, 52, 56, 57, 63, 64, 70, 71, 77, 78, 82, 83, 89, 90, 103, 104, 117, 118, 124, 125, 131, 132, 136, 137, 150, 151, 170, 171, 190, 191, 210, 211, 229, 230, 248, 249, 267, 268, 279, 280, 284, 285, 291, 292, 293, 294, 307, 308, 321, 322, 328, 329, 335, 336, 342, 343, 349, 350, 356, 357, 363, 364, 368, 369, 375, 376, 377, 378, 379, 380, 381, 394, 395, 415, 416, 422, 423, 429, 430, 436, 437, 443, 444, 450, 451, 464, 465, 471, 472, 478, 479, 485, 486, 492, 493, 499, 500, 506, 507, 513, 514, 520, 521, 527, 528, 532, 533, 546, 547, 560, 561, 567, 568, 574, 575, 581, 582, 588, 589, 595, 596, 602, 603, 609, 610, 616, 617, 623, 624, 630, 631, 637, 638, 644, 645, 651, 652, 658, 659, 665, 666, 680, 681, 694, 695, 701, 702, 708, 709, 715, 716, 722, 723, 727, 728, 732, 733, 739, 740, 746, 747, 753, 754, 756, 757, 758, 759, 760, 761, 762, 763, 767, 768, 774, 775, 781, 782]
def partL (g : Addr → Option Obj) : Frag := He.frT g whereL
def looksL (K : Frag) (g : Addr → Option Obj) : He.AlX := (He.obsT faL fnL tsL K, exL K && He.tabsB g tfL K)
def obsL (g : Addr → Option Obj) : He.AlX := looksL (partL g) g
theorem saysL {w : World} {h : Heap} (e : obsL h.get? = He.valX fnL tsL w) : He.SaysX faL fnL tsL tfL exL w h (partL h.get?) := by
  obtain ⟨e1, e2⟩ := Prod.mk.inj (show (He.obsT faL fnL tsL (partL h.get?), exL (partL h.get?) && He.tabsB h.get? tfL (partL h.get?)) = (He.valT fnL tsL w, true) from e)
  obtain ⟨x1, x2⟩ := He.ba e2
  have own : ∀ p ∈ tfL, codeHdIn (partL h.get?) (He.cT (partL h.get?) p).1 (He.cT (partL h.get?) p).2 = true ∧ ∃ o, h.get? (He.cT (partL h.get?) p).2 = some o ∧ He.emptyTab o = true := fun p hp => by
    obtain ⟨y1, y2⟩ := He.ba (List.all_eq_true.mp x2 p hp)
    refine ⟨y1, ?_⟩
    split at y2
    · rename_i o ho
      exact ⟨o, ho, y2⟩
    · cases y2
  refine ⟨e1, x1, fun p hp => (own p hp).1, fun p hp => ?_, fun p hp => ?_⟩
  · obtain ⟨_, o, y, z⟩ := own p hp
    exact He.frT_none y z
  · obtain ⟨_, o, y, z⟩ := own p hp
    rw [y, He.emptyTab_eq z]
def hookL : Hook where
  α := He.AlX
  obs := fun s => obsL s.heap.get?
  val := fun w => He.valX fnL tsL w
  says := fun w h => ∃ K : Frag, K.In h ∧ He.SaysX faL fnL tsL tfL exL w h K
  of := fun _ _ e => ⟨_, He.frT_in, saysL e⟩
  keeps := fun _ _ _ ⟨K, hK, c⟩ k => ⟨K, Frag.In.keeps hK k, ⟨c.t, c.more, c.hd, c.out, fun p hp => k _ _ (c.empty p hp)⟩⟩
def offL (s : SharedT) : He.AlX := obsL (HandSHeadRun.getT s)
theorem offL_eq (s : SharedT) : offL s = hookL.obs s.abs := by
  have e : HandSHeadRun.getT s = s.abs.heap.get? := funext (HandSHeadRun.getT_eq s)
  show obsL (HandSHeadRun.getT s) = obsL s.abs.heap.get?
  rw [e]
theorem runF (w : World) : HandSHeadRun.RunEqS rowL seenL hookL offL 6400 restL (w.withFollow "special-get-raises" false) := fun os => by kernel_rfl
theorem runT (w : World) : HandSHeadRun.RunEqS rowL seenL hookL offL 6400 restL (w.withFollow "special-get-raises" true) := fun os => by kernel_rfl
theorem runL : ∀ w : World, HandSHeadRun.RunEqS rowL seenL hookL offL 6400 restL w := byRow2 "special-get-raises" runF runT
end Lp
set_option maxRecDepth 100000
set_option maxHeartbeats 2000000
/-! Own exceptions over Exception, and over an own one: made by their own __init__, fields stored, read. -/
namespace Lp
open PySem PySem.Spec PyProof.Rows L2
/-- what the written part says of such a class -/
structure ExC (K : PySem.W.Frag) (C : Addr) (bm : List Value) : Prop where
  cls : ∃ nm q N bs sn sub ab col dd k0 k1 k2 k3 k5, K.lookup C = some (excClassObj nm q C N bs bm true sn sub ab col dd k0 k1 k2 k3 k5 "Exception.__new__")
  tl : bm = PySem.ESX.exTail ∨ ∃ R, bm = .ref R :: PySem.ESX.exTail
  sa : PySem.W.findIn K (.ref C) "__setattr__" = some (some (.builtin "object.__setattr__"))
  exC : PySem.W.subIn K (.ref C) (.type "BaseException") = some true
  tyC : PySem.W.typeIn K (.ref C) = some (.type "type")
  kC : PySem.W.keepIn K (.ref C) = true
section
variable {K : PySem.W.Frag} {C : Addr} {bm : List Value}
theorem ExC.has (T : ExC K C bm) (n : String) : bm.contains (.type n) = PySem.ESX.exTail.contains (.type n) := by
  rcases T.tl with z | ⟨R, z⟩ <;> subst z <;> rfl
theorem ExC.pass (T : ExC K C bm) (u : Value) : refuseLoop u "__setattr__" (.ref C :: bm) = pure () := by
  rw [refuseLoop_ref]
  rcases T.tl with z | ⟨R, z⟩
  · subst z; exact PySem.F.store_Exception.passes u
  · subst z; rw [refuseLoop_ref]; exact PySem.F.store_Exception.passes u
theorem ExC.data (T : ExC K C bm) : ∃ cd : ClassData, PySem.W.clsIn K C = some cd ∧ cd.mro = .ref C :: bm ∧ cd.hasDict = true := by
  obtain ⟨nm, q, N, bs, sn, sub, ab, col, dd, k0, k1, k2, k3, k5, hC⟩ := T.cls
  exact ⟨_, by unfold PySem.W.clsIn; rw [hC], rfl, rfl⟩
end
section
open Builtin Builtin.ObjectAttr
variable {prog : Program} {w : World} {A : Around} {R : Result → Shared → Prop} {hp : Heap} {g : Array GenState} {d : Drawn} {t : Nat} {os : OsState} {K : PySem.W.Frag} {C x dx : Addr} {bm : List Value} {name : Str} {tk : Tok} {v : Value} {fv : Array Value}
/-- storing a field of such an object, up to its own dict -/
theorem exStore {ox : Obj} {od : Option Obj} (T : ExC K C bm) (X : K.In hp) (I : PySem.W.InstAt hp x ox C od) (no : PySem.W.findIn K (.ref C) name = some none)
    (go : wpAny (model prog w) A.in1 (storeInOwnDict (.ref x) (.ref C) (.str name tk) name v false) (fun fin z => match fin with
      | .done f => R (.ok f) z
      | .again c' => c'.quiet = true ∧ codeAny (model prog w) A c' R z) (fun e z => R (.error e) z) ⟨hp, g, d, t, os⟩) :
    codeAny (model prog w) A (.call (.builtin "object.__setattr__") ⟨[.ref x, .str name tk, v], []⟩) R ⟨hp, g, d, t, os⟩ := by
  obtain ⟨cd, hcd, hm, hh⟩ := T.data
  have F := PySem.F.store_object
  have ob : cd.mro.contains (.type "object") = true := by rw [hm, List.contains_cons, T.has]; rfl
  have ne : ¬ cd.mro.isEmpty = true := by rw [hm]; exact Bool.false_ne_true
  have isO : PySem.W.Looks (model prog w) hp (isInstance (.ref x) (.type "object")) true := I.type.andThen (PySem.W.looks_mroIn X (by unfold PySem.W.mroIn; rw [hcd, Option.bind_some, if_neg ne, ob]))
  refine codeAny_call_builtin F.slot.plain F.entry ?_
  refine @PySem.W.check_slot (model prog w) _ _ ⟨hp, g, d, t, os⟩ "object.__setattr__" "object" "__setattr__" (.ref x) [.str name tk, v] [] _ F.kind F.split isO (F.args (.ref x) (.str name tk) v) ?_
  have m1 : PySem.W.Looks (model prog w) hp (mroOf (.ref C)) cd.mro := (PySem.W.looks_clsIn X hcd).andThen .now
  have m2 : PySem.W.Looks (model prog w) hp (storeTaker? none) none := .now
  rw [PySem.W.osa_eq, refuse_eq]
  refine wpAny_bind (wpAny_bind (I.type.at (wpAny_bind (m1.at ?_))))
  rw [hm, T.pass]
  exact wpAny_pure (wpAny_bind (I.type.at (wpAny_bind ((PySem.W.looks_findIn X no).at (wpAny_bind (m2.at go))))))
/-- the first field -/
theorem exNew (T : ExC K C bm) (X : K.In hp) (hx : hp.get? x = some { cls := .ref C, data := .fields fv }) (no : PySem.W.findIn K (.ref C) name = some none)
    (fin : ∀ h' tk' dx, (∀ b o, b ≠ x → hp.get? b = some o → h'.get? b = some o) → hp.objs.size ≤ dx → dx ≠ x → h'.get? x = some { cls := .ref C, dict := some dx, data := .fields fv } → h'.Ns1 dx (fun y => if y = name then some v else none) → R (.ok (.ret .none)) ⟨h', g, d, tk', os⟩) :
    codeAny (model prog w) A (.call (.builtin "object.__setattr__") ⟨[.ref x, .str name tk, v], []⟩) R ⟨hp, g, d, t, os⟩ := by
  have nx : x ≠ hp.objs.size := Nat.ne_of_lt (Heap.lt_size hx)
  refine exStore T X (ox := { cls := .ref C, data := .fields fv }) (od := none) ⟨hx, rfl, rfl, trivial⟩ no ?_
  obtain ⟨cd, hcd, hm, hh⟩ := T.data
  have lc : PySem.W.Looks (model prog w) hp (classData C) cd := PySem.W.looks_clsIn X hcd
  obtain ⟨c1, c2, c3, c4, c5, hd, c6, c7, c8, c9, c10⟩ := cd
  cases (show hd = true from hh)
  unfold storeInOwnDict ownDictForStores
  repeat (first
    | with_reducible refine PySem.HandSPX.store_in_new ?_ ?_
    | with_reducible refine wpAny_loadPart_at hx ?_
    | with_reducible refine lc.at ?_
    | wp_step)
  · exact ⟨_, #[], _, (Heap.get?_update_ne _ _ _ _ nx.symm).trans (Heap.get?_push_at rfl rfl), rfl, fun z hz => absurd hz (by simp), fun _ => rfl⟩
  · intro h' t2 hn hs
    have x1 : (hp.push { cls := .type "dict", data := .dict #[] }).get? x = some { cls := .ref C, data := .fields fv } := Heap.get?_push_of_some _ hx
    exact fin h' t2 hp.objs.size (fun b o hb ho => (hs.2 b (Nat.ne_of_lt (Heap.lt_size ho))).trans ((Heap.get?_update_ne _ _ _ _ hb).trans (Heap.get?_push_of_some _ ho))) (Nat.le_refl _) nx.symm ((hs.2 x nx).trans (Heap.get?_update_self _ x1 rfl)) hn
/-- a further one -/
theorem exOld {m0 : Str → Option Value} {nl : List Str} (T : ExC K C bm) (X : K.In hp) (hx : hp.get? x = some { cls := .ref C, dict := some dx, data := .fields fv }) (hns : hp.Ns1 dx m0) (hw : Within m0 nl) (hz : nl.length ≤ 1000) (no : PySem.W.findIn K (.ref C) name = some none)
    (fin : ∀ h' tk', (∀ b o, b ≠ dx → hp.get? b = some o → h'.get? b = some o) → h'.Ns1 dx (fun y => if y = name then some v else m0 y) → R (.ok (.ret .none)) ⟨h', g, d, tk', os⟩) :
    codeAny (model prog w) A (.call (.builtin "object.__setattr__") ⟨[.ref x, .str name tk, v], []⟩) R ⟨hp, g, d, t, os⟩ := by
  obtain ⟨oD, _, _, hoD, _, _⟩ := hns.count hw
  refine exStore T X (ox := { cls := .ref C, dict := some dx, data := .fields fv }) (od := some oD) ⟨hx, rfl, rfl, hoD⟩ no ?_
  obtain ⟨cd, hcd, hm, hh⟩ := T.data
  have lc : PySem.W.Looks (model prog w) hp (classData C) cd := PySem.W.looks_clsIn X hcd
  obtain ⟨c1, c2, c3, c4, c5, hd, c6, c7, c8, c9, c10⟩ := cd
  cases (show hd = true from hh)
  unfold storeInOwnDict ownDictForStores
  repeat (first
    | with_reducible refine PySem.ESX.store_in_old hns hw hz ?_
    | with_reducible refine wpAny_loadPart_at hx ?_
    | with_reducible refine lc.at ?_
    | wp_step)
  intro h' t2 hn hs
  exact fin h' t2 (fun b o hb ho => (hs.2 b hb).trans ho) hn
end
section
variable {X : Cx} {pins : List (Addr × Obj)} {σ : L2.St} {H : Hp} {s : Shared} {a C dx : Addr} {bm : List Value} {f : Str} {y : V} {u : Value} {fs : List (Str × V)} {Q : Unit → Shared → Prop} {E : Value → Shared → Prop} {A : Around}
/-- the heap's word when an exception got its dict -/
theorem exInv {hp h' : Heap} {g : Array GenState} {d : Drawn} {t t2 : Nat} {os : OsState} {t1 : Addr} {mA : Str → Option Value} (I : Inv X pins σ H ⟨hp, g, d, t, os⟩) (e : H a = some (exo a C none)) (k : ∀ b o, b ≠ a → hp.get? b = some o → h'.get? b = some o) (dn : hp.objs.size ≤ dx) (dne : dx ≠ a)
    (hx : h'.get? a = some ({ cls := .ref C, dict := some dx, data := .fields #[.ref t1, .none, .none, .none, .bool false, .none] } : Obj)) (hn : h'.Ns1 dx mA) (r : ∀ n, RelO (fs.lookup n) (mA n)) :
    H dx = none ∧ Inv X pins σ (upd (upd H dx (exd dx fs)) a (exo a C (some dx))) ⟨h', g, d, t2, os⟩ := by
  have nH : H dx = none := I.hok.fresh dn
  have far : ∀ {b : Addr} {o : Obj}, hp.get? b = some o → b ≠ dx := fun q z => absurd (Heap.lt_size q) (by rw [z]; exact Nat.not_lt.mpr dn)
  have nota : ∀ {b : Addr}, H b = none → b ≠ a := fun n z => by rw [z, e] at n; cases n
  have same : ∀ {b : Addr} {o : HO}, H b = some o → exo a C none ≠ o → (upd (upd H dx (exd dx fs)) a (exo a C (some dx))) b = some o := fun {b o} q ne => by rw [upd_ne (at_ne e q ne), upd_ne (ne_of_none q nH)]; exact q
  have U : Un X.fs [] H (upd (upd H dx (exd dx fs)) a (exo a C (some dx))) hp h' := by
    refine ⟨fun b o q n _ _ => k b o (nota n) q, fun b o q n _ _ => ⟨o.slots, k b o (nota n) q⟩, fun b o q n _ => ?_, fun b o q _ => ?_, fun b xs q => same q exo_tup, fun b o v q => same q exo_frz, fun b ps q => ⟨#[], by rw [same q exo_tbl]; simp⟩⟩
    · rw [upd_ne (nota n), upd_ne (far q)]; exact n
    · by_cases hb : b = a
      · rw [hb]; exact ⟨_, hx⟩
      · exact ⟨o, k b o hb q⟩
  refine ⟨nH, I.un (t' := t2) U fun b o q => ?_⟩
  by_cases hb : b = a
  · rw [hb, upd_same] at q
    rw [hb, ← Option.some.inj q]
    exact exo_ok hx
  · rw [upd_ne hb] at q
    by_cases hd : b = dx
    · rw [hd, upd_same] at q
      rw [hd, ← Option.some.inj q]
      exact exd_ok hn r
    · rw [upd_ne hd] at q
      refine (I.hok b o q).stay (fun c v hc z => ?_) (fun c hc => same hc exo_own) fun c xs hc => same hc exo_tup
      rcases hc with hc | hc
      · exact k c v (by rw [hc]; exact hb) z
      · exact k c v (at_ne e hc exo_own) z
theorem exSet1 (T : ExC X.K C bm) (I : Inv X pins σ H s) (e : H a = some (exo a C none)) (no : PySem.W.findIn X.K (.ref C) f = some none) (ry : RelV y u)
    (go : ∀ dx z, H dx = none → dx ≠ a → Inv X pins σ (upd (upd H dx (exd dx [(f, y)])) a (exo a C (some dx))) z → Q () z) : wpAny (model X.prog X.w) A (setAttr (.ref a) f u) Q E s := by
  obtain ⟨t1, ho⟩ := exo_at I.hok e
  obtain ⟨hp, g, d, t, os⟩ := s
  refine PySem.W.set_plain I.kIn (ox := { cls := .ref C, dict := none, data := .fields #[.ref t1, .none, .none, .none, .bool false, .none] }) (od := none) ⟨ho, rfl, rfl, trivial⟩ T.sa ?_
  refine exNew T I.kIn ho no fun h' t2 dx k dn dne hx hn => ?_
  obtain ⟨n, J⟩ := exInv (t2 := t2) (fs := [(f, y)]) I e k dn dne hx hn (relO_put (fs := []) ry fun _ => True.intro)
  exact go dx _ n dne J
theorem exSet2 (T : ExC X.K C bm) (I : Inv X pins σ H s) (e : H a = some (exo a C (some dx))) (ed : H dx = some (exd dx fs)) (hl : fs.length ≤ 900) (no : PySem.W.findIn X.K (.ref C) f = some none) (ry : RelV y u)
    (go : ∀ z, Inv X pins σ (upd H dx (exd dx ((f, y) :: fs))) z → Q () z) : wpAny (model X.prog X.w) A (setAttr (.ref a) f u) Q E s := by
  obtain ⟨t1, ho⟩ := exo_at I.hok e
  obtain ⟨mA, hns, rel⟩ := exd_at I.hok ed
  have wi := within_of rel
  obtain ⟨hp, g, d, t, os⟩ := s
  obtain ⟨oD, _, _, hoD, _, _⟩ := hns.count wi
  refine PySem.W.set_plain I.kIn (ox := { cls := .ref C, dict := some dx, data := .fields #[.ref t1, .none, .none, .none, .bool false, .none] }) (od := some oD) ⟨ho, rfl, rfl, hoD⟩ T.sa ?_
  refine exOld T I.kIn ho hns wi (by rw [List.length_map]; omega) no fun h' t2 k hn => ?_
  obtain ⟨od2, _, _, e2, _⟩ := id hn
  exact go _ (I.write (t' := t2) (x := dx) (e := dx) (o := exd dx ((f, y) :: fs)) (by rw [ed]; exact True.intro) (.inl rfl) k ⟨od2, e2⟩ (exd_ok hn (relO_put ry rel)))
end
/-- self.f = e, self an exception that is being made -/
def tExS (K : PySem.W.Frag) (f : Str) (to te : TE) : TS := fun D σ H => te σ H fun y H1 => to σ H1 fun x H2 => ∃ a C : Addr, x = .ref a ∧ (∃ bm, ExC K C bm) ∧ PySem.W.findIn K (.ref C) f = some none ∧
  ((H2 a = some (exo a C none) ∧ ∀ dx, H2 dx = none → dx ≠ a → D.nx σ (upd (upd H2 dx (exd dx [(f, y)])) a (exo a C (some dx)))) ∨
    ∃ (dx : Addr) (fs : List (Str × V)), H2 a = some (exo a C (some dx)) ∧ H2 dx = some (exd dx fs) ∧ fs.length ≤ 900 ∧ D.nx σ (upd H2 dx (exd dx ((f, y) :: fs))))
theorem ps_exS {X : Cx} {o e : Expr} {to te : TE} {f : Str} {p' pos : Pos} (ho : PE X o to) (he : PE X e te) (hs : swapsWith e (some (.Attribute o f p')) pos.line X.env = pure false := by rfl) : PS X (.Assign [.Attribute o f p'] e pos) (tExS X.K f to te) := by
  refine ⟨fun pins s σ H D I h => plainObj_wpAny_Assign_Attribute (thn (he.run pins s σ H _ I h) fun v s1 ⟨y, H1, I1, r1, q1⟩ => thn (ho.run pins s1 σ H1 _ I1 q1) fun u s2 ⟨x, H2, I2, r2, a, C, ex, ⟨bm, T⟩, no, q⟩ => ?_) hs⟩
  subst ex
  cases (show u = Value.ref a from r2)
  rcases q with ⟨ea, q⟩ | ⟨dx, fs, ea, ed, hl, q⟩
  · exact exSet1 T I2 ea no r1 fun dx z n ne J => ⟨σ, _, J, q dx n ne⟩
  · exact exSet2 T I2 ea ed hl no r1 fun z J => ⟨σ, _, J, q⟩
/-- X(e, ..), X such a class, its __init__ keeping sp -/
def tExM (C : Addr) (sp : Sp) (ta : TA) : L2.St → Hp → XK → Prop := fun σ H Q => ta σ H fun vs H1 => vs.length ≤ 1000 ∧ ∀ a, H1 a = none → sp (.ref a :: vs) (upd H1 a (exo a C none))
  (fun v H2 => v = .non ∧ ∃ (d : Addr) (fs : List (Str × V)), H2 a = some (exo a C (some d)) ∧ H2 d = some (exd d fs) ∧ H1 d = none ∧ Q (.ref C) (some d) (upd (del H2 a) d (.xd fs))) (fun _ _ _ => False)
/-- what a call of such a class rests on -/
structure ExI (P : Program) (w : World) (K : PySem.W.Frag) (mg : Str → Option Value) (base : Heap) (k : Nat) (x : Str) (C : Addr) (sp : Sp) : Prop where
  ex : ∃ (bm : List Value) (fI : Addr) (fd : FuncData) (ps : List Str), ExC K C bm ∧ PySem.W.findIn K (.ref C) "__init__" = some (some (.ref fI)) ∧ PySem.W.typeIn K (.ref fI) = some (.type "function") ∧ FnOk P w K mg base (L2.CX P w) k fI fd ps sp ∧ Binds K fd ps [] ∧ mg x = some (.ref C)
theorem noExc {P : Program} {w : World} {outer : List Env} {H : Hp} {s s' : Shared} {e : Value} (h : L2.CX P w outer H s (fun _ _ _ => False) e s') : False := by
  obtain ⟨_, _, _, _, _, _, _, _, _, _, _, _, z⟩ := h
  exact z
section
variable {X : Cx} {pins : List (Addr × Obj)} {σ : L2.St} {H1 : Hp} {s1 : Shared} {C fI : Addr} {k : Nat} {fd : FuncData} {ps : List Str} {sp : Sp} {bm : List Value} {Q : XK} {us : List Value} {vs : List V}
theorem exMade (T : ExC X.K C bm) (iC : PySem.W.findIn X.K (.ref C) "__init__" = some (some (.ref fI))) (tI : PySem.W.typeIn X.K (.ref fI) = some (.type "function")) (F1 : FnOk X.prog X.w X.K X.mg X.base (L2.CX X.prog X.w) k fI fd ps sp) (hr : Room (k + 1) X.A) (hb : Binds X.K fd ps [])
    (I1 : Inv X pins σ H1 s1) (r1 : Vals vs us) (hz : vs.length ≤ 1000)
    (q1 : ∀ a, H1 a = none → sp (.ref a :: vs) (upd H1 a (exo a C none)) (fun v H2 => v = .non ∧ ∃ (d : Addr) (fs : List (Str × V)), H2 a = some (exo a C (some d)) ∧ H2 d = some (exd d fs) ∧ H1 d = none ∧ Q (.ref C) (some d) (upd (del H2 a) d (.xd fs))) (fun _ _ _ => False)) :
    wpAny (model X.prog X.w) X.A (call (.ref C) us) (fun u z => MkP X pins σ Q u z) X.xe s1 := by
  obtain ⟨nm, q, N, bs, sn, sub, ab, col, dd, k0, k1, k2, k3, k5, hC⟩ := T.cls
  obtain ⟨hp, g, dr, tk, os⟩ := s1
  have big : hp.objs.size ≤ hp.objs.size + 1 := Nat.le_succ _
  have nw : H1 (hp.objs.size + 1) = none := I1.hok.fresh big
  have hq := q1 (hp.objs.size + 1) nw
  have kk : ∀ b o, hp.get? b = some o → ((hp.push (PySem.W.kdv_tup us)).push (PySem.HandSPX.excO C hp.objs.size)).get? b = some o := fun b o z => Heap.get?_push_of_some _ (Heap.get?_push_of_some _ z)
  have got : ((hp.push (PySem.W.kdv_tup us)).push (PySem.HandSPX.excO C hp.objs.size)).get? (hp.objs.size + 1) = some (PySem.HandSPX.excO C hp.objs.size) := by heap_get
  have I2 := I1.laid (t' := tk) (a := hp.objs.size + 1) (o := exo (hp.objs.size + 1) C none) (h' := (hp.push (PySem.W.kdv_tup us)).push (PySem.HandSPX.excO C hp.objs.size)) kk big (exo_ok got)
  have r2 : Vals (V.ref (hp.objs.size + 1) :: vs) (Value.ref (hp.objs.size + 1) :: us) := .cons rfl r1
  have hl : (Value.ref (hp.objs.size + 1) :: us).length = ps.length := by
    have z := r2.length
    rw [F1.len _ _ _ _ hq] at z
    exact z.symm
  have hl' : (Value.ref (hp.objs.size + 1) :: us ++ []).length = ps.length := by rw [List.append_nil]; exact hl
  have hus : us.length ≤ sizeLine := by
    rw [← Paired.length r1, sizeLine_eq]
    omega
  have b1 := hb _ (Value.ref (hp.objs.size + 1) :: us) I2.kIn hl'
  have run := F1.run _ X.stack _ _ ⟨Value.ref (hp.objs.size + 1) :: us, []⟩ (Value.ref (hp.objs.size + 1) :: us) _ _ (fun _ _ _ => False) (hr.make C us []) (I2.env0.make C us []) (by simpa using b1) r2 hq
  refine wpAny_call (PySem.HandSPX.call_own PySem.F.excBase_Exception (fun n => T.has n) (I1.kIn _ _ hC) (PySem.W.looks_findIn I1.kIn iC) (fun self => PySem.W.bind_fn I1.kIn self tI) hus (codeAny_mono run fun r z hz' => ?_))
  cases r with
  | error er => exact (noExc hz').elim
  | ok fl =>
    cases fl with
    | ret u =>
      obtain ⟨v, H2, os2, bare2, un2, hok2, rv, ev, d, fs, ea, ed, hd1, q2⟩ := hz'
      subst ev
      obtain ⟨h2, g2, d2, t2, os'⟩ := z
      exact ⟨rv, mk_end (raises_own T.exC T.tyC) I1 big kk un2 hok2 os2 bare2 ea ed hd1 q2⟩
    | next => exact hz'.elim
    | brk => exact hz'.elim
    | cont => exact hz'.elim
end
section
variable {X : Cx} {k j : Nat} {x : Str} {C : Addr} {sp : Sp} {p pos : Pos} {e : Expr} {es : List Expr} {ta : TA}
theorem pmk_ex (c : ExI X.prog X.w X.K X.mg X.base k x C sp) (hr : Room j X.A) (ha : PA X (e :: es) ta) (hk : k + 1 ≤ j := by decide) (hg : Gl X x := by rfl) (hdb : (x == ("__debug__" : Str)) = false := by decide)
    (he : starEach (e :: es) X.env = (false, eval e X.env) :: starEach es X.env := by rfl) (hpl : (backTo pos (starEach es X.env)).any (·.1) = false := by rfl) : PMk X (.Call (.Name x p) (e :: es) [] pos) (tExM C sp ta) := by
  obtain ⟨bm, fI, fd, ps, T, iC, tI, F1, hb, hm⟩ := c.ex
  intro pins s σ H Q I h
  refine wpAny_Call_Name_kw (ld_glob I hg hm ?_ hdb)
  exact PySem.W.callWith_K (h₀ := X.base) I.ok.mod.kin T.kC (thn (ha.run pos pins s σ H _ I h) fun us s1 ⟨vs, H1, I1, r1, hz, q1⟩ => ⟨I1.kIn, exMade T iC tI F1 (hr.mono hk) hb I1 r1 hz q1⟩) he hpl
theorem pmk_ex0 (c : ExI X.prog X.w X.K X.mg X.base k x C sp) (hr : Room j X.A) (hk : k + 1 ≤ j := by decide) (hg : Gl X x := by rfl) (hdb : (x == ("__debug__" : Str)) = false := by decide) : PMk X (.Call (.Name x p) [] [] pos) (tExM C sp tNil) := by
  obtain ⟨bm, fI, fd, ps, T, iC, tI, F1, hb, hm⟩ := c.ex
  intro pins s σ H Q I h
  refine wpAny_Call_Name_kw (ld_glob I hg hm ?_ hdb)
  exact PySem.W.callWith_K0 (first := []) I.kIn T.kC (exMade (us := []) T iC tI F1 (hr.mono hk) hb I .nil h.1 h.2)
end
/-- C.m(e, ..): a function read off a class, called as it stands -/
structure ClsFn (P : Program) (w : World) (K : PySem.W.Frag) (mg : Str → Option Value) (base : Heap) (k : Nat) (x m : Str) (sp : Sp) : Prop where
  ex : ∃ (R f : Addr) (fd : FuncData) (ps : List Str) (mc : Value), FnOk P w K mg base (L2.CX P w) k f fd ps sp ∧ mg x = some (.ref R) ∧ ClX.CRead K R mc ∧ PySem.W.findCls K (.ref R) mc m = some (.val (.ref f)) ∧ PySem.W.keepIn K (.ref f) = true ∧ Binds K fd ps []
theorem pe_clsfn {X : Cx} {k j : Nat} {x m : Str} {sp : Sp} {W : WX} {p p2 pos : Pos} {e : Expr} {es : List Expr} {t : TA} {pl : Sem Bool} (c : ClsFn X.prog X.w X.K X.mg X.base k x m sp) (hr : Room j X.A) (tk : Takes X W) (ha : PA X (e :: es) t) (hk : k ≤ j := by decide) (hg : Gl X x := by rfl)
    (hdb : (x == ("__debug__" : Str)) = false := by decide) (he : starEach (e :: es) X.env = (false, eval e X.env) :: starEach es X.env := by rfl) (hpl : (backTo pos (starEach es X.env)).any (·.1) = false := by rfl)
    (hc : eval (.Call (.Attribute (.Name x p) m p2) (e :: es) [] pos) X.env = (do
      let o ← eval (.Name x p) X.env
      standAt p2.atName
      let (f, first) ← holding [o] (getMethod o m pl)
      callWith pos f first (backTo pos (starEach (e :: es) X.env)) (backToKw pos (keywordEach [] X.env))) := by rfl) :
    PE X (.Call (.Attribute (.Name x p) m p2) (e :: es) [] pos) (tCallS sp (WE W) t) := by
  obtain ⟨R, f, fd, ps, mc, F, hm, rd, at_, kp, b⟩ := c.ex
  refine ⟨fun pins s σ H Q I h => PySem.W.methodCall_KW (ld_glob I hg hm ?_ hdb) hc⟩
  refine PySem.W.method_cls I.kIn rd.ga (PySem.W.cls_value I.kIn rd.rd at_ rfl ?_)
  have I1 := I.tok (s.toks + 1)
  refine PySem.W.callWith_K (first := []) (h₀ := X.base) I.ok.mod.kin kp (thn (ha.run pos pins _ σ H _ I1 h) fun us s1 ⟨vs, H1, I2, r1, q1⟩ => ⟨I2.kIn, ?_⟩) he hpl
  exact run_fnS (us := us) F (hr.mono hk) b (passAt tk σ) I2 r1 q1
/-- n.f, n the caught one (at a; its class cls, its dict d), of any class that is so -/
def tExF (K : PySem.W.Frag) (a : Addr) (cls : Value) (d : Option Addr) (f : Str) (te : TE) : TE := fun σ H Q => te σ H fun x H1 => x = .ref a ∧ ∃ C, cls = .ref C ∧ XfC K C ∧ PySem.W.findIn K (.ref C) f = some none ∧ ∃ (dd : Addr) (fs : List (Str × V)) (v : V), d = some dd ∧ H1 dd = some (.xd fs) ∧ fs.lookup f = some v ∧ Q v H1
theorem pe_exF {X : Cx} {a : Addr} {oe : Obj} {cls : Value} {d : Option Addr} {pn : List (Addr × Obj)} {e : Expr} {te : TE} {pos : Pos} {n : Str} (hz : Zc cls d oe) (hf : ∃ vs, oe.data = .fields vs) (he : PE (X.suite a ((a, oe) :: pn)) e te)
    (hb : attributeBase e n X.env (eval e X.env) = eval e X.env := by rfl) : PE (X.suite a ((a, oe) :: pn)) (.Attribute e n pos) (tExF X.K a cls d n te) := by
  refine ⟨fun pins s σ H Q I h => attr_of hb (thn (he.run pins s σ H _ I h) fun u s1 ⟨x, H1, I1, rx, ex, C, ec, T, no, dd, fs, v, ed, ea, l, q⟩ => ?_)⟩
  subst ex ec ed
  cases (show u = Value.ref a from rx)
  obtain ⟨vs, dt⟩ := hf
  obtain ⟨at1, _⟩ := I1.pin (a, oe) (List.mem_append_left _ List.mem_cons_self)
  obtain ⟨mA, ns, rel⟩ := (show ObjOk X.prog X.w H1 s1.heap dd (.xd fs) from I1.hok dd _ ea)
  obtain ⟨od, ho, look⟩ := lookIn_ns ns
  obtain ⟨u, hu, ru⟩ := RelO.some_of (v := v) (o := mA n) (l ▸ rel n)
  have J : PySem.W.InstAt s1.heap a oe C (some od) := ⟨at1, hz.1, by unfold PySem.W.notCls; rw [dt] <;> rfl, hz.2 ▸ ho⟩
  exact HandSPX.exc_get I1.kIn J T.ga T.gg T.exC (PySem.W.findObj_own T.hdC no rfl (by rw [look, hu])) (handed_of ru) ⟨v, H1, I1.tok _, ru, q⟩
/-- such a class as the top leaves it -/
structure ExT (K : PySem.W.Frag) (mg : Str → Option Value) (x : Str) (C : Addr) (qual : Str) (st : Stmt) (ps fs : List Str) : Prop where
  bm : ∃ bm, ExC K C bm
  ini : ∃ (f : Addr) (fd : FuncData), Fun K "__init__" qual st f fd ∧ PySem.W.findIn K (.ref C) "__init__" = some (some (.ref f)) ∧ PySem.W.typeIn K (.ref f) = some (.type "function") ∧ Binds K fd ps []
  gC : mg x = some (.ref C)
  no : ∀ f ∈ fs, PySem.W.findIn K (.ref C) f = some none
  xf : XfC K C
/-- a function of a class, read off the class -/
structure ClT (K : PySem.W.Frag) (mg : Str → Option Value) (x : Str) (C : Addr) (m qual : Str) (st : Stmt) (ps : List Str) : Prop where
  ex : ∃ (f : Addr) (fd : FuncData) (mc : Value), Fun K m qual st f fd ∧ ClX.CRead K C mc ∧ PySem.W.findCls K (.ref C) mc m = some (.val (.ref f)) ∧ Binds K fd ps []
  gC : mg x = some (.ref C)
end Lp
set_option maxRecDepth 100000
set_option maxHeartbeats 2000000
/-! What the top of the program leaves: each name's value. -/
namespace Lp
open PySem PySem.Spec PyProof.Rows L2
/-- where the classes stand -/
structure Ad where
  ch : Addr
  fa : Addr
  np : Addr
  re : Addr
  ns : Addr
  nt : Addr
  nn : Addr
  tm : Addr
  to : Addr
  co : Addr
  rd : Addr
  sp : Addr
  ho : Addr
  tc : Addr
  tb : Addr
/-- a tuple of texts written at the top -/
def Gt (K : PySem.W.Frag) (mg : Str → Option Value) (x : Str) (vs : List V) : Prop := ∃ a, mg x = some (.ref a) ∧ ∀ H, SqT K H a vs
/-- .. read -/
def tGt (K : PySem.W.Frag) (vs : List V) : TE := fun σ H Q => ∀ a, SqT K H a vs → Q (.ref a) H
theorem pe_gt {X : Cx} {x : Str} {pos : Pos} {vs : List V} (h : Gt X.K X.mg x vs) (hg : Gl X x := by rfl) (hd : (x == ("__debug__" : Str)) = false := by decide) : PE X (.Name x pos) (tGt X.K vs) := by
  obtain ⟨a, hm, r⟩ := h
  exact ⟨fun pins s σ H Q I q => (pe_glob (v := .ref a) hg hm rfl hd).run pins s σ H Q I (q a (r H))⟩
/-- a class of the program's own without a base: its fields have no name in it -/
structure Kls (K : PySem.W.Frag) (mg : Str → Option Value) (x : Str) (C : Addr) (fs : List Str) : Prop where
  cl : Cls K C
  no : ∀ f ∈ fs, NoAttr K C f
  gC : mg x = some (.ref C)
/-- a method of it, or its __init__ -/
structure Mth (K : PySem.W.Frag) (C : Addr) (m qual : Str) (st : Stmt) (ps : List Str) : Prop where
  ex : ∃ (f : Addr) (fd : FuncData), Fun K m qual st f fd ∧ Meth K C m f ∧ Binds K fd ps []
structure Ini (K : PySem.W.Frag) (C : Addr) (qual : Str) (st : Stmt) (ps : List Str) : Prop where
  ex : ∃ (f : Addr) (fd : FuncData), Fun K "__init__" qual st f fd ∧ Mk K C f ∧ Binds K fd ps []
structure Txt (K : PySem.W.Frag) (mg : Str → Option Value) (A : Ad) : Prop where
  b_len : mg "len" = none
  b_max : mg "max" = none
  b_min : mg "min" = none
  b_ord : mg "ord" = none
  b_abs : mg "abs" = none
  b_sum : mg "sum" = none
  b_isinstance : mg "isinstance" = none
  b_range : mg "range" = none
  b_reversed : mg "reversed" = none
  b_enumerate : mg "enumerate" = none
  b_int : mg "int" = none
  c_LETTERS : Gv mg "LETTERS" (.str "abcdefghijklmnopqrstuvwxyz")
  c_FIRST_LETTER : Gv mg "FIRST_LETTER" (.int 97)
  c_LAST_LETTER : Gv mg "LAST_LETTER" (.int 122)
  c_LINE_END : Gv mg "LINE_END" (.int 10)
  c_KEPT : Gv mg "KEPT" (.int 0)
  c_TAKEN_OUT : Gv mg "TAKEN_OUT" (.int 1)
  c_PUT_IN : Gv mg "PUT_IN" (.int 2)
  c_MOST_AROUND : Gv mg "MOST_AROUND" (.int 2)
  c_MOST_BYTES : Gv mg "MOST_BYTES" (.int 4096)
  c_LONGEST_WORD : Gv mg "LONGEST_WORD" (.int 8)
  c_GREATEST_NUMBER : Gv mg "GREATEST_NUMBER" (.int 1000000000)
  c_MOST_DIGITS : Gv mg "MOST_DIGITS" (.int 10)
  c_BLANKS : Gt K mg "BLANKS" [.int 32, .int 9, .int 10]
  c_REMARK : Gv mg "REMARK" (.int 35)
  c_SEMICOLON : Gv mg "SEMICOLON" (.int 59)
  c_FIRST_DIGIT : Gv mg "FIRST_DIGIT" (.int 48)
  c_LAST_DIGIT : Gv mg "LAST_DIGIT" (.int 57)
  c_SIGN : Gv mg "SIGN" (.str ";")
  c_END : Gv mg "END" (.str "")
  c_OWN_WORDS : Gt K mg "OWN_WORDS" [.str "if", .str "all", .str "line", .str "from", .str "to", .str "last", .str "has", .str "is", .str "not", .str "delete", .str "before", .str "after", .str "change", .str "swap", .str "first", .str "keep", .str "bring", .str "trade", .str "skip", .str "stop", .str "none"]
  c_MOST_COMMANDS : Gv mg "MOST_COMMANDS" (.int 16)
  c_MOST_NOTS : Gv mg "MOST_NOTS" (.int 3)
  c_GREATEST_LINE : Gv mg "GREATEST_LINE" (.int 99)
  c_GREATEST_SKIP : Gv mg "GREATEST_SKIP" (.int 9)
  c_BARE_ADDRESSES : Gt K mg "BARE_ADDRESSES" [.str "all", .str "last"]
  c_LETTERS_ADDRESSES : Gt K mg "LETTERS_ADDRESSES" [.str "has", .str "is"]
  c_BARE_DEEDS : Gt K mg "BARE_DEEDS" [.str "delete", .str "keep", .str "bring", .str "trade", .str "stop"]
  c_LETTERS_DEEDS : Gt K mg "LETTERS_DEEDS" [.str "before", .str "after", .str "change"]
  c_SWAP_DEEDS : Gt K mg "SWAP_DEEDS" [.str "swap", .str "first"]
  c_MOST_LETTERS : Gv mg "MOST_LETTERS" (.int 16)
  c_MOST_LINES : Gv mg "MOST_LINES" (.int 24)
  c_MOST_RESULT_LINES : Gv mg "MOST_RESULT_LINES" (.int 60)
  d_is_letter : Dfn K mg "is_letter" (top 5) ["byte"]
  d_letter_of : Dfn K mg "letter_of" (top 6) ["byte"]
  d_bytes_of : Dfn K mg "bytes_of" (top 7) ["told"]
  d_least_patch : Dfn K mg "least_patch" (top 12) ["first", "second"]
  d_common_counts : Dfn K mg "common_counts" (top 13) ["first", "second"]
  d_counts_with : Dfn K mg "counts_with" (top 14) ["line", "second", "without"]
  d_turned_round : Dfn K mg "turned_round" (top 15) ["marks"]
  d_other_way : Dfn K mg "other_way" (top 16) ["mark"]
  d_one_behind_other : Dfn K mg "one_behind_other" (top 17) ["first", "second"]
  d_marks_of_both : Dfn K mg "marks_of_both" (top 18) ["first", "second"]
  d_cost_of : Dfn K mg "cost_of" (top 19) ["marks"]
  d_told_patch : Dfn K mg "told_patch" (top 20) ["marks"]
  d_changes_of : Dfn K mg "changes_of" (top 24) ["marks"]
  d_keep_behind : Dfn K mg "keep_behind" (top 25) ["changes", "kept", "line"]
  d_add_to : Dfn K mg "add_to" (top 26) ["change", "mark", "line"]
  d_told_changes : Dfn K mg "told_changes" (top 27) ["changes"]
  d_put_to : Dfn K mg "put_to" (top 37) ["changes", "lines"]
  d_places_of : Dfn K mg "places_of" (top 38) ["change", "lines", "end"]
  d_nearest_to : Dfn K mg "nearest_to" (top 39) ["places", "wanted"]
  d_is_letters : Dfn K mg "is_letters" (top 54) ["word"]
  d_is_digit : Dfn K mg "is_digit" (top 55) ["byte"]
  d_tokens_of : Dfn K mg "tokens_of" (top 56) ["script"]
  d_past_blanks : Dfn K mg "past_blanks" (top 57) ["script", "at"]
  d_token_end : Dfn K mg "token_end" (top 58) ["script", "at"]
  d_run_end : Dfn K mg "run_end" (top 59) ["script", "at", "belongs"]
  d_token_value : Dfn K mg "token_value" (top 60) ["script", "at", "end"]
  d_word_value : Dfn K mg "word_value" (top 61) ["script", "at", "end"]
  d_number_value : Dfn K mg "number_value" (top 62) ["script", "at", "end"]
  d_commands_of : Dfn K mg "commands_of" (top 75) ["script"]
  d_read_command : Dfn K mg "read_command" (top 76) ["reader"]
  d_read_address : Dfn K mg "read_address" (top 77) ["reader"]
  d_read_plain_address : Dfn K mg "read_plain_address" (top 78) ["reader"]
  d_read_deed : Dfn K mg "read_deed" (top 79) ["reader"]
  d_read_letters_or_none : Dfn K mg "read_letters_or_none" (top 80) ["reader"]
  d_numbered_script : Dfn K mg "numbered_script" (top 82) ["marks"]
  d_command_to_put_in : Dfn K mg "command_to_put_in" (top 83) ["line", "passed"]
  d_told_script : Dfn K mg "told_script" (top 84) ["commands"]
  d_lines_of : Dfn K mg "lines_of" (top 88) ["told"]
  d_told_text : Dfn K mg "told_text" (top 89) ["lines"]
  d_result_of : Dfn K mg "result_of" (top 93) ["commands", "lines"]
  d_go_through : Dfn K mg "go_through" (top 94) ["commands", "spot"]
  d_lines_from : Dfn K mg "lines_from" (top 95) ["spot"]
  d_holds : Dfn K mg "holds" (top 96) ["address", "spot"]
  d_set_swapped : Dfn K mg "set_swapped" (top 97) ["spot", "line"]
  d_do_delete : Dfn K mg "do_delete" (top 98) ["spot", "deed"]
  d_do_stop : Dfn K mg "do_stop" (top 99) ["spot", "deed"]
  d_do_before : Dfn K mg "do_before" (top 100) ["spot", "deed"]
  d_do_after : Dfn K mg "do_after" (top 101) ["spot", "deed"]
  d_do_bring : Dfn K mg "do_bring" (top 102) ["spot", "deed"]
  d_do_change : Dfn K mg "do_change" (top 103) ["spot", "deed"]
  d_do_swap : Dfn K mg "do_swap" (top 104) ["spot", "deed"]
  d_do_first : Dfn K mg "do_first" (top 105) ["spot", "deed"]
  d_do_keep : Dfn K mg "do_keep" (top 106) ["spot", "deed"]
  d_do_trade : Dfn K mg "do_trade" (top 107) ["spot", "deed"]
  d_do_skip : Dfn K mg "do_skip" (top 108) ["spot", "deed"]
  d_call_load : Dfn K mg "call_load" (top 112) ["holder", "rows"]
  d_call_diff : Dfn K mg "call_diff" (top 113) ["holder", "rows"]
  d_call_patch : Dfn K mg "call_patch" (top 114) ["holder", "rows"]
  d_call_script : Dfn K mg "call_script" (top 115) ["holder", "rows"]
  d_call_undo : Dfn K mg "call_undo" (top 116) ["holder", "rows"]
  d_call_drift : Dfn K mg "call_drift" (top 117) ["holder", "rows"]
  d_call_both : Dfn K mg "call_both" (top 118) ["holder", "rows"]
  d_call_hunks : Dfn K mg "call_hunks" (top 119) ["holder", "rows"]
  d_patch_between : Dfn K mg "patch_between" (top 120) ["rows"]
  d_patch_by_run : Dfn K mg "patch_by_run" (top 121) ["holder", "row"]
  d_answers : Dfn K mg "answers" (top 123) ["calls"]
  d_rows_from : Dfn K mg "rows_from" (top 124) ["calls", "at", "count"]
  d_answer_of : Dfn K mg "answer_of" (top 125) ["holder", "number", "rows"]
  q_Change : Kls K mg "Change" A.ch ["place", "before", "taken_out", "put_in", "behind"]
  i_Change : Ini K A.ch "Change.__init__" (inClass (top 23) 0) ["self", "place", "before"]
  q_Token : Kls K mg "Token" A.to ["value", "place"]
  i_Token : Ini K A.to "Token.__init__" (inClass (top 53) 0) ["self", "value", "place"]
  q_Command : Kls K mg "Command" A.co ["address", "deed"]
  i_Command : Ini K A.co "Command.__init__" (inClass (top 73) 0) ["self", "address", "deed"]
  q_Reader : Kls K mg "Reader" A.rd ["tokens", "taken"]
  i_Reader : Ini K A.rd "Reader.__init__" (inClass (top 74) 0) ["self", "tokens"]
  m_following : Mth K A.rd "following" "Reader.following" (inClass (top 74) 1) ["self"]
  m_take : Mth K A.rd "take" "Reader.take" (inClass (top 74) 2) ["self"]
  m_take_just : Mth K A.rd "take_just" "Reader.take_just" (inClass (top 74) 3) ["self", "value"]
  m_take_number : Mth K A.rd "take_number" "Reader.take_number" (inClass (top 74) 4) ["self", "least", "greatest"]
  m_take_letters : Mth K A.rd "take_letters" "Reader.take_letters" (inClass (top 74) 5) ["self"]
  q_Spot : Kls K mg "Spot" A.sp ["line", "number", "is_last", "held", "ahead", "behind", "deleted", "ended", "left_out"]
  i_Spot : Ini K A.sp "Spot.__init__" (inClass (top 92) 0) ["self", "line", "number", "is_last", "held"]
  q_Holder : Kls K mg "Holder" A.ho ["commands"]
  i_Holder : Ini K A.ho "Holder.__init__" (inClass (top 111) 0) ["self"]
  x_Fault : ExT K mg "Fault" A.fa "Fault.__init__" (inClass (top 29) 0) ["self", "code", "place"] ["code", "place"]
  x_ChangeNotPut : ExT K mg "ChangeNotPut" A.np "ChangeNotPut.__init__" (inClass (top 30) 0) ["self", "number"] ["number"]
  x_Refusal : ExT K mg "Refusal" A.re "Refusal.__init__" (inClass (top 31) 0) ["self", "number"] ["number"]
  r_Refusal : ClT K mg "Refusal" A.re "__init__" "Refusal.__init__" (inClass (top 31) 0) ["self", "number"]
  x_NoScriptHeld : ExT K mg "NoScriptHeld" A.ns "NoScriptHeld.__init__" (inClass (top 32) 0) ["self"] ["number"]
  x_NotAText : ExT K mg "NotAText" A.nt "NotAText.__init__" (inClass (top 33) 0) ["self"] ["number"]
  x_NoScriptForPatch : ExT K mg "NoScriptForPatch" A.nn "NoScriptForPatch.__init__" (inClass (top 34) 0) ["self"] ["number"]
  x_TooMuch : ExT K mg "TooMuch" A.tm "TooMuch.__init__" (inClass (top 35) 0) ["self"] ["number"]
  n_near : ∃ (f : Addr) (oc : Value) (od : Option Addr) (kV doc pm : Value) (an : Option Addr) (ct : Value) (osl : Array (Option Value)), K.lookup f = some ⟨oc, od, .func (PySem.W.fnOf "nearest_to" "nearest_to" (defArgs (top 39)) (defBody (top 39)) (defScope (top 39)) .none kV doc pm an (.ref A.tc) ct), osl⟩ ∧ PySem.W.codeIn K (.ref A.tc) "nearest_to" = true ∧ mg "nearest_to" = some (.ref f) ∧ PySem.W.keepIn K (.ref f) = true ∧ Binds K (PySem.W.fnOf "nearest_to" "nearest_to" (defArgs (top 39)) (defBody (top 39)) (defScope (top 39)) .none kV doc pm an (.ref A.tc) ct) ["places", "wanted"] []
  e_fa : PySem.W.exmOne K (.ref A.fa) (.ref A.fa) = some true
  e_np : PySem.W.exmOne K (.ref A.np) (.ref A.np) = some true
  e_ns : PySem.W.exmOne K (.ref A.ns) (.ref A.re) = some true
  e_nt : PySem.W.exmOne K (.ref A.nt) (.ref A.re) = some true
  e_nn : PySem.W.exmOne K (.ref A.nn) (.ref A.re) = some true
  e_tm : PySem.W.exmOne K (.ref A.tm) (.ref A.re) = some true
  n_nbk : PySem.W.nsOkIn K cStatics = true
  n_nb : PySem.W.nsIn K cStatics sharingNotToldKey = some none
end Lp
/-! Lines, tables, patches: the loops as functions of what is left, against the specification. -/
namespace Lp
open VasedBase Vaseda Vasedc

/-! ### texts -/
/-- a text's bytes from a state: the lines so far, the line begun -/
def linesGo : Text → Line → Bytes → Option Text
  | ls, l, [] => if l = [] then some ls else none
  | ls, l, b :: r =>
    if b = 10 then (if 24 < (ls ++ [l]).length then none else linesGo (ls ++ [l]) [] r)
    else if isLetter b = true then (if 16 < (l ++ [b]).length ∨ 24 < ls.length then none else linesGo ls (l ++ [b]) r)
    else none

theorem linesGo_split : ∀ (b : Bytes) (n : Nat) (ls : Text) (l : Line), b.length < n → ls.length ≤ 24 → ls.any (fun x => decide (LONG < x.length)) = false → l.length ≤ 16 →
    linesGo ls l b = (splitBy n b l).bind fun t => if LINES < (ls ++ t).length ∨ (ls ++ t).any (fun x => decide (LONG < x.length)) = true then none else some (ls ++ t)
  | _, 0, _, _, h, _, _, _ => absurd h (Nat.not_lt_zero _)
  | [], n + 1, ls, l, _, h1, h2, h3 => by
    unfold linesGo splitBy
    by_cases e : l = []
    · subst e
      simp only [List.isEmpty_nil, if_true, Option.bind_some, List.append_nil]
      rw [if_neg]
      rintro (c | c)
      · exact absurd c (by show ¬ 24 < _; omega)
      · rw [h2] at c; cases c
    · have e' : l.isEmpty = false := by cases l with
        | nil => exact absurd rfl e
        | cons _ _ => rfl
      simp [e, e']
  | b :: r, n + 1, ls, l, h, h1, h2, h3 => by
    have hr : r.length < n := Nat.lt_of_succ_lt_succ h
    unfold linesGo splitBy
    by_cases e : b = 10
    · subst e
      have q : ((10 : UInt8) == 10) = true := rfl
      simp only [q, if_true]
      by_cases c : 24 < (ls ++ [l]).length
      · rw [if_pos c]
        cases splitBy n r [] with
        | none => rfl
        | some t =>
          simp only [Option.map_some, Option.bind_some]
          rw [if_pos]
          left
          show 24 < _
          simp only [List.length_append, List.length_cons, List.length_nil] at c ⊢
          omega
      · rw [if_neg c, linesGo_split r n (ls ++ [l]) [] hr (by omega) ?_ (by simp)]
        · cases splitBy n r [] with
          | none => rfl
          | some t => simp [List.append_assoc]
        · simp only [List.any_append, h2, List.any_cons, List.any_nil, Bool.or_false, Bool.false_or, decide_eq_false_iff_not]
          show ¬ 16 < _
          omega
    · have q : (b == (10 : UInt8)) = false := by simpa using e
      simp only [e, q, if_false, Bool.false_eq_true]
      by_cases k : isLetter b = true
      · simp only [k, if_true]
        by_cases c : 16 < (l ++ [b]).length
        · rw [if_pos (.inl c)]
          -- the line only grows
          have big : ∀ (r : Bytes) (n : Nat) (l : Line), r.length < n → 16 < l.length → ∀ t, splitBy n r l = some t → t.any (fun x => decide (LONG < x.length)) = true := by
            intro r
            induction r with
            | nil =>
              intro n l hn hl t ht
              cases n with
              | zero => exact absurd hn (Nat.not_lt_zero _)
              | succ n =>
                unfold splitBy at ht
                cases l with
                | nil => exact absurd hl (by simp)
                | cons _ _ => simp at ht
            | cons b r ih =>
              intro n l hn hl t ht
              cases n with
              | zero => exact absurd hn (Nat.not_lt_zero _)
              | succ n =>
                have hr : r.length < n := Nat.lt_of_succ_lt_succ hn
                unfold splitBy at ht
                by_cases e : b = 10
                · subst e
                  have q : ((10 : UInt8) == 10) = true := rfl
                  simp only [q, if_true] at ht
                  cases z : splitBy n r [] with
                  | none => rw [z] at ht; cases ht
                  | some u =>
                    rw [z] at ht
                    cases ht
                    simp only [List.any_cons]
                    have w : decide (LONG < l.length) = true := decide_eq_true hl
                    rw [w]; rfl
                · have q : (b == (10 : UInt8)) = false := by simpa using e
                  simp only [q, if_false, Bool.false_eq_true] at ht
                  by_cases k : isLetter b = true
                  · simp only [k, if_true] at ht
                    exact ih n (l ++ [b]) hr (by simp; omega) t ht
                  · simp only [k, if_false, Bool.false_eq_true] at ht
                    cases ht
          cases z : splitBy n r (l ++ [b]) with
          | none => rfl
          | some t =>
            simp only [Option.bind_some]
            rw [if_pos]
            right
            rw [List.any_append, big r n (l ++ [b]) hr c t z, Bool.or_true]
        · rw [if_neg (by rintro (c' | c') <;> omega)]
          exact linesGo_split r n ls (l ++ [b]) hr h1 h2 (by omega)
      · simp only [k, if_false, Bool.false_eq_true, Option.bind_none]

theorem linesGo_is (b : Bytes) : linesGo [] [] b = readText b := by
  rw [linesGo_split b (b.length + 1) [] [] (Nat.lt_succ_self _) (by simp) rfl (by simp)]
  rfl
/-- what a text has -/
structure TextOk (t : Text) : Prop where
  len : t.length ≤ 24
  long : ∀ x ∈ t, x.length ≤ 16
theorem readText_ok {b : Bytes} {t : Text} (h : readText b = some t) : TextOk t := by
  unfold readText at h
  cases z : textOf b with
  | none => rw [z] at h; cases h
  | some u =>
    rw [z] at h
    simp only [Option.bind_some] at h
    split at h
    · cases h
    · rename_i c
      cases h
      refine ⟨?_, fun x hx => ?_⟩
      · have : ¬ LINES < t.length := fun q => c (.inl q)
        exact Nat.le_of_not_lt this
      · have : ¬ (t.any (fun x => decide (LONG < x.length)) = true) := fun q => c (.inr q)
        rw [List.any_eq_true] at this
        have q : ¬ LONG < x.length := fun q => this ⟨x, hx, decide_eq_true q⟩
        exact Nat.le_of_not_lt q

/-! ### tables -/
theorem rowOf_length (x : Line) : ∀ (b : Text) (n : List Nat), (rowOf x b n).length = b.length + 1
  | [], _ => rfl
  | y :: r, n => by
    show (_ :: rowOf x r (n.drop 1)).length = _
    rw [List.length_cons, rowOf_length x r]; rfl
theorem tableOf_length : ∀ (a b : Text), (tableOf a b).length = a.length + 1
  | [], _ => rfl
  | x :: r, b => by
    show (_ :: tableOf r b).length = _
    rw [List.length_cons, tableOf_length r b]; rfl
theorem tableOf_row : ∀ (a b : Text) (i : Nat) (r : List Nat), (tableOf a b)[i]? = some r → r.length = b.length + 1
  | [], b, i, r, h => by
    have h : [List.replicate (b.length + 1) 0][i]? = some r := h
    cases i with
    | zero => cases h; simp
    | succ i => simp at h
  | x :: a, b, i, r, h => by
    have h : (rowOf x b ((tableOf a b).headD []) :: tableOf a b)[i]? = some r := h
    cases i with
    | zero => cases h; exact rowOf_length x b _
    | succ i => exact tableOf_row a b i r (by simpa using h)
theorem tableOf_drop : ∀ (a b : Text) (i : Nat), i ≤ a.length → (tableOf a b).drop i = tableOf (a.drop i) b
  | _, _, 0, _ => rfl
  | [], _, i + 1, h => absurd h (Nat.not_succ_le_zero _)
  | x :: a, b, i + 1, h => by
    show (_ :: tableOf a b).drop (i + 1) = tableOf (a.drop i) b
    rw [List.drop_succ_cons]
    exact tableOf_drop a b i (Nat.le_of_succ_le_succ h)
theorem tableOf_head (a b : Text) : ∃ r t, tableOf a b = r :: t ∧ r.length = b.length + 1 := by
  cases h : tableOf a b with
  | nil => have := tableOf_length a b; rw [h] at this; cases this
  | cons r t => exact ⟨r, t, rfl, tableOf_row a b 0 r (by rw [h]; rfl)⟩
/-- a cell by its rows -/
theorem cell_is {t : Table} {i j : Nat} {r : List Nat} {v : Nat} (h1 : t[i]? = some r) (h2 : r[j]? = some v) : cell t i j = v := by
  unfold cell
  rw [h1, Option.bind_some, h2]; rfl
/-- one more from the right: the value at j -/
def stepCell (x y : Line) (w1 w0 c1 : Nat) : Nat := if x = y then w1 + 1 else Nat.max w0 c1
theorem rowOf_step {x y : Line} {b : Text} {j : Nat} {w : List Nat} {w0 w1 : Nat} (hy : b[j]? = some y) (h0 : w[j]? = some w0) (h1 : w[j + 1]? = some w1) {c1 : Nat} {c : List Nat} (hc : rowOf x (b.drop (j + 1)) (w.drop (j + 1)) = c1 :: c) :
    rowOf x (b.drop j) (w.drop j) = stepCell x y w1 w0 c1 :: c1 :: c := by
  obtain ⟨hj, ej⟩ := List.getElem?_eq_some_iff.mp hy
  have e1 : b.drop j = y :: b.drop (j + 1) := by rw [← ej]; exact List.drop_eq_getElem_cons hj
  obtain ⟨hw, ew⟩ := List.getElem?_eq_some_iff.mp h0
  have e2 : w.drop j = w0 :: w.drop (j + 1) := by rw [← ew]; exact List.drop_eq_getElem_cons hw
  obtain ⟨hv, ev⟩ := List.getElem?_eq_some_iff.mp h1
  have e3 : w.drop (j + 1) = w1 :: w.drop (j + 2) := by rw [← ev]; exact List.drop_eq_getElem_cons hv
  rw [e1, e2]
  show (if x = y then (List.drop 1 (w0 :: w.drop (j + 1))).headD 0 + 1 else Nat.max ((w0 :: w.drop (j + 1)).headD 0) ((rowOf x (b.drop (j + 1)) (List.drop 1 (w0 :: w.drop (j + 1)))).headD 0)) :: rowOf x (b.drop (j + 1)) (List.drop 1 (w0 :: w.drop (j + 1))) = _
  have e4 : List.drop 1 (w0 :: w.drop (j + 1)) = w.drop (j + 1) := rfl
  rw [e4, hc, e3]
  rfl
theorem rowOf_end (x : Line) (b : Text) (w : List Nat) : rowOf x (b.drop b.length) (w.drop b.length) = [0] := by
  rw [List.drop_length]; rfl

/-! ### the least patch -/
theorem patchBy_keep {t : Table} {f i j : Nat} {a b : Text} {x : Line} (ha : a[i]? = some x) (hb : b[j]? = some x) : patchBy t (f + 1) i j (a.drop i) (b.drop j) = .keep x :: patchBy t f (i + 1) (j + 1) (a.drop (i + 1)) (b.drop (j + 1)) := by
  obtain ⟨h1, e1⟩ := List.getElem?_eq_some_iff.mp ha
  obtain ⟨h2, e2⟩ := List.getElem?_eq_some_iff.mp hb
  rw [List.drop_eq_getElem_cons h1, e1, List.drop_eq_getElem_cons h2, e2]
  show (if x = x then _ else _) = _
  rw [if_pos rfl]
theorem patchBy_drop {t : Table} {f i j : Nat} {a b : Text} {x y : Line} (ha : a[i]? = some x) (hb : b[j]? = some y) (h : ¬ x = y) (c : cell t i (j + 1) ≤ cell t (i + 1) j) : patchBy t (f + 1) i j (a.drop i) (b.drop j) = .drop x :: patchBy t f (i + 1) j (a.drop (i + 1)) (b.drop j) := by
  obtain ⟨h1, e1⟩ := List.getElem?_eq_some_iff.mp ha
  obtain ⟨h2, e2⟩ := List.getElem?_eq_some_iff.mp hb
  rw [List.drop_eq_getElem_cons h1, e1, List.drop_eq_getElem_cons h2, e2]
  show (if x = y then _ else if _ then _ else _) = _
  rw [if_neg h, if_pos c]
theorem patchBy_put {t : Table} {f i j : Nat} {a b : Text} {x y : Line} (ha : a[i]? = some x) (hb : b[j]? = some y) (h : ¬ x = y) (c : ¬ cell t i (j + 1) ≤ cell t (i + 1) j) : patchBy t (f + 1) i j (a.drop i) (b.drop j) = .put y :: patchBy t f i (j + 1) (a.drop i) (b.drop (j + 1)) := by
  obtain ⟨h1, e1⟩ := List.getElem?_eq_some_iff.mp ha
  obtain ⟨h2, e2⟩ := List.getElem?_eq_some_iff.mp hb
  rw [List.drop_eq_getElem_cons h1, e1, List.drop_eq_getElem_cons h2, e2]
  show (if x = y then _ else if _ then _ else _) = _
  rw [if_neg h, if_neg c]
theorem patchBy_end {t : Table} {f i j : Nat} {a b : Text} (h : a.length ≤ i ∨ b.length ≤ j) : patchBy t (f + 1) i j (a.drop i) (b.drop j) = (a.drop i).map Op.drop ++ (b.drop j).map Op.put := by
  rcases h with h | h
  · rw [List.drop_eq_nil_of_le h]
    cases b.drop j <;> rfl
  · rw [List.drop_eq_nil_of_le h]
    cases a.drop i <;> simp [patchBy]
/-- what is left to come, when i lines of the one and j of the other are gone through and ms are told -/
def PatchAt (a b : Text) (i j : Nat) (ms : Patch) : Prop := ∃ f, (a.length - i) + (b.length - j) < f ∧ ms ++ patchBy (tableOf a b) f i j (a.drop i) (b.drop j) = patch a b
theorem patchAt_start (a b : Text) : PatchAt a b 0 0 [] := ⟨a.length + b.length + 1, by omega, rfl⟩
theorem patchAt_keep {a b : Text} {i j : Nat} {ms : Patch} {x : Line} (p : PatchAt a b i j ms) (ha : a[i]? = some x) (hb : b[j]? = some x) : PatchAt a b (i + 1) (j + 1) (ms ++ [.keep x]) := by
  obtain ⟨f, hf, e⟩ := p
  have h1 := (List.getElem?_eq_some_iff.mp ha).1
  cases f with
  | zero => omega
  | succ f => exact ⟨f, by omega, by rw [List.append_assoc, ← e, patchBy_keep ha hb]; rfl⟩
theorem patchAt_drop {a b : Text} {i j : Nat} {ms : Patch} {x y : Line} (p : PatchAt a b i j ms) (ha : a[i]? = some x) (hb : b[j]? = some y) (h : ¬ x = y) (c : cell (tableOf a b) i (j + 1) ≤ cell (tableOf a b) (i + 1) j) : PatchAt a b (i + 1) j (ms ++ [.drop x]) := by
  obtain ⟨f, hf, e⟩ := p
  have h1 := (List.getElem?_eq_some_iff.mp ha).1
  cases f with
  | zero => omega
  | succ f => exact ⟨f, by omega, by rw [List.append_assoc, ← e, patchBy_drop ha hb h c]; rfl⟩
theorem patchAt_put {a b : Text} {i j : Nat} {ms : Patch} {x y : Line} (p : PatchAt a b i j ms) (ha : a[i]? = some x) (hb : b[j]? = some y) (h : ¬ x = y) (c : ¬ cell (tableOf a b) i (j + 1) ≤ cell (tableOf a b) (i + 1) j) : PatchAt a b i (j + 1) (ms ++ [.put y]) := by
  obtain ⟨f, hf, e⟩ := p
  have h1 := (List.getElem?_eq_some_iff.mp hb).1
  cases f with
  | zero => omega
  | succ f => exact ⟨f, by omega, by rw [List.append_assoc, ← e, patchBy_put ha hb h c]; rfl⟩
theorem patchAt_end {a b : Text} {i j : Nat} {ms : Patch} (p : PatchAt a b i j ms) (h : a.length ≤ i ∨ b.length ≤ j) : ms ++ (a.drop i).map Op.drop ++ (b.drop j).map Op.put = patch a b := by
  obtain ⟨f, hf, e⟩ := p
  cases f with
  | zero => omega
  | succ f => rw [← e, patchBy_end h, List.append_assoc]
/-- what a patch makes, what it is for -/
def made (p : Patch) : Text := p.filterMap fun o => match o with
  | .keep x => some x
  | .put x => some x
  | .drop _ => none
theorem patchBy_sides (t : Table) : ∀ (f i j : Nat) (a b : Text), a.length + b.length < f → before_ (patchBy t f i j a b) = a ∧ made (patchBy t f i j a b) = b ∧ (patchBy t f i j a b).length ≤ a.length + b.length
  | 0, _, _, _, _, h => absurd h (Nat.not_lt_zero _)
  | f + 1, i, j, [], b, h => by
    show before_ (b.map Op.put) = [] ∧ made (b.map Op.put) = b ∧ (b.map Op.put).length ≤ _
    refine ⟨?_, ?_, by simp⟩
    · unfold before_
      induction b with
      | nil => rfl
      | cons y r ih => rw [List.map_cons, List.filterMap_cons_none rfl]; exact ih (by simp at h ⊢; omega)
    · unfold made
      induction b with
      | nil => rfl
      | cons y r ih =>
        show y :: List.filterMap _ (r.map Op.put) = _
        rw [ih (by simp at h ⊢; omega)]
  | f + 1, i, j, x :: a, [], h => by
    show before_ ((x :: a).map Op.drop) = x :: a ∧ made ((x :: a).map Op.drop) = [] ∧ ((x :: a).map Op.drop).length ≤ _
    have z : ∀ l : Text, before_ (l.map Op.drop) = l ∧ made (l.map Op.drop) = [] := by
      intro l
      unfold before_ made
      induction l with
      | nil => exact ⟨rfl, rfl⟩
      | cons y r ih =>
        refine ⟨?_, ih.2⟩
        show y :: List.filterMap _ (r.map Op.drop) = _
        rw [ih.1]
    exact ⟨(z _).1, (z _).2, by simp⟩
  | f + 1, i, j, x :: a, y :: b, h => by
    simp only [List.length_cons] at h
    show before_ (if x = y then _ else if _ then _ else _) = _ ∧ made (if x = y then _ else if _ then _ else _) = _ ∧ List.length (if x = y then _ else if _ then _ else _) ≤ _
    by_cases e : x = y
    · subst e
      simp only [if_true]
      obtain ⟨h1, h2, h3⟩ := patchBy_sides t f (i + 1) (j + 1) a b (by omega)
      refine ⟨?_, ?_, ?_⟩
      · show x :: before_ _ = _; rw [h1]
      · show x :: made _ = _; rw [h2]
      · simp only [List.length_cons]; omega
    · simp only [if_neg e]
      by_cases c : cell t i (j + 1) ≤ cell t (i + 1) j
      · simp only [if_pos c]
        obtain ⟨h1, h2, h3⟩ := patchBy_sides t f (i + 1) j a (y :: b) (by simp; omega)
        refine ⟨?_, ?_, ?_⟩
        · show x :: before_ _ = _; rw [h1]
        · exact h2
        · simp only [List.length_cons] at h3 ⊢; omega
      · simp only [if_neg c]
        obtain ⟨h1, h2, h3⟩ := patchBy_sides t f i (j + 1) (x :: a) b (by simp; omega)
        refine ⟨?_, ?_, ?_⟩
        · exact h1
        · show y :: made _ = _; rw [h2]
        · simp only [List.length_cons] at h3 ⊢; omega
theorem patch_sides (a b : Text) : before_ (patch a b) = a ∧ made (patch a b) = b ∧ (patch a b).length ≤ a.length + b.length := patchBy_sides _ _ _ _ _ _ (by omega)
end Lp
/-! Changes of a patch and their drift: the program's way against the specification. -/
namespace Lp
open VasedBase Vaseda Vasedc

def onLast (f : Hunk → Hunk) (hs : List Hunk) : List Hunk := hs.dropLast ++ hs.getLast?.toList.map f
theorem onLast_snoc (f : Hunk → Hunk) (hs : List Hunk) (h : Hunk) : onLast f (hs ++ [h]) = hs ++ [f h] := by
  unfold onLast
  rw [List.dropLast_concat, List.getLast?_concat]; rfl
def lastTwo (k : Text) : Text := k.drop (k.length - 2)
def opened (hs : List Hunk) (kept : Text) (n : Nat) : List Hunk := if hs = [] ∨ kept ≠ [] then hs ++ [⟨n, lastTwo kept, [], [], []⟩] else hs
def moreRest (x : Line) (h : Hunk) : Hunk := { h with rest := h.rest ++ [x] }
def moreOld (x : Line) (h : Hunk) : Hunk := { h with old := h.old ++ [x] }
def moreNew (x : Line) (h : Hunk) : Hunk := { h with new := h.new ++ [x] }
structure ChS where
  hs : List Hunk
  kept : Text
  n : Nat
def chStep (s : ChS) : Op → ChS
  | .keep x => ⟨if s.hs ≠ [] ∧ s.kept.length < 2 then onLast (moreRest x) s.hs else s.hs, s.kept ++ [x], s.n + 1⟩
  | .drop x => ⟨onLast (moreOld x) (opened s.hs s.kept s.n), [], s.n + 1⟩
  | .put x => ⟨onLast (moreNew x) (opened s.hs s.kept s.n), [], s.n⟩
abbrev nk (o : Op) : Bool := !isKeep o
theorem fDd (x : Line) (r : Patch) : (Op.drop x :: r).filter isDrop = .drop x :: r.filter isDrop := rfl
theorem fDp (x : Line) (r : Patch) : (Op.put x :: r).filter isDrop = r.filter isDrop := rfl
theorem fPd (x : Line) (r : Patch) : (Op.drop x :: r).filter isPut = r.filter isPut := rfl
theorem fPp (x : Line) (r : Patch) : (Op.put x :: r).filter isPut = .put x :: r.filter isPut := rfl
theorem tKk (x : Line) (r : Patch) : takeKeeps (Op.keep x :: r) = x :: takeKeeps r := rfl
theorem ch_inv : ∀ (p : Patch),
    (∀ (hs : List Hunk) (a : Nat) (b o w : Text) (n f : Nat), p.length < f →
      (p.foldl chStep ⟨hs ++ [⟨a, b, o, w, []⟩], [], n⟩).hs = hs ++ [⟨a, b, o ++ ((p.takeWhile nk).filter isDrop).map lineIn, w ++ ((p.takeWhile nk).filter isPut).map lineIn, (takeKeeps (p.dropWhile nk)).take 2⟩] ++ hunksBy f (n + (((p.takeWhile nk).filter isDrop).map lineIn).length) [] (p.dropWhile nk)) ∧
    (∀ (hs : List Hunk) (a : Nat) (b o w kept : Text) (n f : Nat), kept ≠ [] → p.length < f →
      (p.foldl chStep ⟨hs ++ [⟨a, b, o, w, kept.take 2⟩], kept, n⟩).hs = hs ++ [⟨a, b, o, w, (kept ++ takeKeeps p).take 2⟩] ++ hunksBy f n kept p)
  | [] => by
    refine ⟨fun hs a b o w n f hf => ?_, fun hs a b o w kept n f hk hf => ?_⟩
    · cases f with
      | zero => simp at hf
      | succ f => simp [hunksBy, takeKeeps]
    · cases f with
      | zero => simp at hf
      | succ f => simp [hunksBy, takeKeeps]
  | .keep x :: r => by
    obtain ⟨_, ih⟩ := ch_inv r
    refine ⟨fun hs a b o w n f hf => ?_, fun hs a b o w kept n f hk hf => ?_⟩
    · cases f with
      | zero => simp at hf
      | succ f =>
        have e : chStep ⟨hs ++ [⟨a, b, o, w, []⟩], [], n⟩ (.keep x) = ⟨hs ++ [⟨a, b, o, w, [x].take 2⟩], [x], n + 1⟩ := by
          simp [chStep, onLast_snoc, moreRest]
        rw [List.foldl_cons, e, ih hs a b o w [x] (n + 1) f (by simp) (by simpa using hf)]
        have e1 : (Op.keep x :: r).takeWhile nk = [] := by rw [List.takeWhile_cons_of_neg]; simp [isKeep]
        have e2 : (Op.keep x :: r).dropWhile nk = Op.keep x :: r := by rw [List.dropWhile_cons_of_neg]; simp [isKeep]
        rw [e1, e2]
        simp [hunksBy, tKk]
    · cases f with
      | zero => simp at hf
      | succ f =>
        have e : chStep ⟨hs ++ [⟨a, b, o, w, kept.take 2⟩], kept, n⟩ (.keep x) = ⟨hs ++ [⟨a, b, o, w, (kept ++ [x]).take 2⟩], kept ++ [x], n + 1⟩ := by
          by_cases c : kept.length < 2
          · have e3 : kept.take 2 = kept := List.take_of_length_le (by omega)
            have e4 : (kept ++ [x]).take 2 = kept ++ [x] := List.take_of_length_le (by simp; omega)
            simp [chStep, onLast_snoc, moreRest, c, e3, e4]
          · have e4 : (kept ++ [x]).take 2 = kept.take 2 := by rw [List.take_append_of_le_length (by omega)]
            simp [chStep, c, e4]
        rw [List.foldl_cons, e, ih hs a b o w (kept ++ [x]) (n + 1) f (by simp) (by simpa using hf)]
        simp [hunksBy, tKk]
  | .drop x :: r => by
    obtain ⟨ih, _⟩ := ch_inv r
    have e1 : (Op.drop x :: r).takeWhile nk = .drop x :: r.takeWhile nk := by rw [List.takeWhile_cons_of_pos]; simp [isKeep]
    have e2 : (Op.drop x :: r).dropWhile nk = r.dropWhile nk := by rw [List.dropWhile_cons_of_pos]; simp [isKeep]
    have e3 : takeKeeps (Op.drop x :: r) = [] := by simp [takeKeeps, isKeep]
    refine ⟨fun hs a b o w n f hf => ?_, fun hs a b o w kept n f hk hf => ?_⟩
    · have e : chStep ⟨hs ++ [⟨a, b, o, w, []⟩], [], n⟩ (.drop x) = ⟨hs ++ [⟨a, b, o ++ [x], w, []⟩], [], n + 1⟩ := by
        simp [chStep, opened, onLast_snoc, moreOld]
      rw [List.foldl_cons, e, ih hs a b (o ++ [x]) w (n + 1) f (by simp at hf; omega), e1, e2]
      simp [fDd, fDp, fPd, fPp, lineIn, Nat.add_assoc, Nat.add_comm 1]
    · cases f with
      | zero => simp at hf
      | succ f =>
        have e : chStep ⟨hs ++ [⟨a, b, o, w, kept.take 2⟩], kept, n⟩ (.drop x) = ⟨(hs ++ [⟨a, b, o, w, kept.take 2⟩]) ++ [⟨n, lastTwo kept, [x], [], []⟩], [], n + 1⟩ := by
          simp [chStep, opened, hk]
          rw [show hs ++ [⟨a, b, o, w, kept.take 2⟩, ⟨n, lastTwo kept, [], [], []⟩] = (hs ++ [⟨a, b, o, w, kept.take 2⟩]) ++ [⟨n, lastTwo kept, [], [], []⟩] by simp, onLast_snoc]
          simp [moreOld]
        rw [List.foldl_cons, e, ih (hs ++ [(⟨a, b, o, w, kept.take 2⟩ : Hunk)]) n (lastTwo kept) [x] [] (n + 1) f (by simp at hf; omega), e3]
        have e5 : hunksBy (f + 1) n kept (Op.drop x :: r) = ⟨n, kept.drop (kept.length - CONTEXT), (((Op.drop x :: r).takeWhile nk).filter isDrop).map lineIn, (((Op.drop x :: r).takeWhile nk).filter isPut).map lineIn, (takeKeeps ((Op.drop x :: r).dropWhile nk)).take CONTEXT⟩ :: hunksBy f (n + ((((Op.drop x :: r).takeWhile nk).filter isDrop).map lineIn).length) [] ((Op.drop x :: r).dropWhile nk) := rfl
        rw [e5, e1, e2]
        simp [fDd, fDp, fPd, fPp, lineIn, Nat.add_assoc, Nat.add_comm 1, lastTwo, CONTEXT]
  | .put x :: r => by
    obtain ⟨ih, _⟩ := ch_inv r
    have e1 : (Op.put x :: r).takeWhile nk = .put x :: r.takeWhile nk := by rw [List.takeWhile_cons_of_pos]; simp [isKeep]
    have e2 : (Op.put x :: r).dropWhile nk = r.dropWhile nk := by rw [List.dropWhile_cons_of_pos]; simp [isKeep]
    have e3 : takeKeeps (Op.put x :: r) = [] := by simp [takeKeeps, isKeep]
    refine ⟨fun hs a b o w n f hf => ?_, fun hs a b o w kept n f hk hf => ?_⟩
    · have e : chStep ⟨hs ++ [⟨a, b, o, w, []⟩], [], n⟩ (.put x) = ⟨hs ++ [⟨a, b, o, w ++ [x], []⟩], [], n⟩ := by
        simp [chStep, opened, onLast_snoc, moreNew]
      rw [List.foldl_cons, e, ih hs a b o (w ++ [x]) n f (by simp at hf; omega), e1, e2]
      simp [fDd, fDp, fPd, fPp, lineIn]
    · cases f with
      | zero => simp at hf
      | succ f =>
        have e : chStep ⟨hs ++ [⟨a, b, o, w, kept.take 2⟩], kept, n⟩ (.put x) = ⟨(hs ++ [⟨a, b, o, w, kept.take 2⟩]) ++ [⟨n, lastTwo kept, [], [x], []⟩], [], n⟩ := by
          simp [chStep, opened, hk]
          rw [show hs ++ [⟨a, b, o, w, kept.take 2⟩, ⟨n, lastTwo kept, [], [], []⟩] = (hs ++ [⟨a, b, o, w, kept.take 2⟩]) ++ [⟨n, lastTwo kept, [], [], []⟩] by simp, onLast_snoc]
          simp [moreNew]
        rw [List.foldl_cons, e, ih (hs ++ [(⟨a, b, o, w, kept.take 2⟩ : Hunk)]) n (lastTwo kept) [] [x] n f (by simp at hf; omega), e3]
        have e5 : hunksBy (f + 1) n kept (Op.put x :: r) = ⟨n, kept.drop (kept.length - CONTEXT), (((Op.put x :: r).takeWhile nk).filter isDrop).map lineIn, (((Op.put x :: r).takeWhile nk).filter isPut).map lineIn, (takeKeeps ((Op.put x :: r).dropWhile nk)).take CONTEXT⟩ :: hunksBy f (n + ((((Op.put x :: r).takeWhile nk).filter isDrop).map lineIn).length) [] ((Op.put x :: r).dropWhile nk) := rfl
        rw [e5, e1, e2]
        simp [fDd, fDp, fPd, fPp, lineIn, lastTwo, CONTEXT]
theorem ch_first : ∀ (p : Patch) (kept : Text) (n f : Nat), p.length < f → (p.foldl chStep ⟨[], kept, n⟩).hs = hunksBy f n kept p
  | [], kept, n, f, hf => by
    cases f with
    | zero => simp at hf
    | succ f => simp [hunksBy]
  | .keep x :: r, kept, n, f, hf => by
    cases f with
    | zero => simp at hf
    | succ f =>
      have e : chStep ⟨[], kept, n⟩ (.keep x) = ⟨[], kept ++ [x], n + 1⟩ := by simp [chStep]
      rw [List.foldl_cons, e, ch_first r _ _ f (by simpa using hf)]
      rfl
  | .drop x :: r, kept, n, f, hf => by
    cases f with
    | zero => simp at hf
    | succ f =>
      have e : chStep ⟨[], kept, n⟩ (.drop x) = ⟨[] ++ [⟨n, lastTwo kept, [x], [], []⟩], [], n + 1⟩ := by
        simp [chStep, opened]
        rw [show [(⟨n, lastTwo kept, [], [], []⟩ : Hunk)] = [] ++ [⟨n, lastTwo kept, [], [], []⟩] by simp, onLast_snoc]
        simp [moreOld]
      have e1 : (Op.drop x :: r).takeWhile nk = .drop x :: r.takeWhile nk := by rw [List.takeWhile_cons_of_pos]; simp [isKeep]
      have e2 : (Op.drop x :: r).dropWhile nk = r.dropWhile nk := by rw [List.dropWhile_cons_of_pos]; simp [isKeep]
      rw [List.foldl_cons, e, (ch_inv r).1 [] n (lastTwo kept) [x] [] (n + 1) f (by simp at hf; omega)]
      have e5 : hunksBy (f + 1) n kept (Op.drop x :: r) = ⟨n, kept.drop (kept.length - CONTEXT), (((Op.drop x :: r).takeWhile nk).filter isDrop).map lineIn, (((Op.drop x :: r).takeWhile nk).filter isPut).map lineIn, (takeKeeps ((Op.drop x :: r).dropWhile nk)).take CONTEXT⟩ :: hunksBy f (n + ((((Op.drop x :: r).takeWhile nk).filter isDrop).map lineIn).length) [] ((Op.drop x :: r).dropWhile nk) := rfl
      rw [e5, e1, e2]
      simp [fDd, fDp, fPd, fPp, lineIn, Nat.add_assoc, Nat.add_comm 1, lastTwo, CONTEXT]
  | .put x :: r, kept, n, f, hf => by
    cases f with
    | zero => simp at hf
    | succ f =>
      have e : chStep ⟨[], kept, n⟩ (.put x) = ⟨[] ++ [⟨n, lastTwo kept, [], [x], []⟩], [], n⟩ := by
        simp [chStep, opened]
        rw [show [(⟨n, lastTwo kept, [], [], []⟩ : Hunk)] = [] ++ [⟨n, lastTwo kept, [], [], []⟩] by simp, onLast_snoc]
        simp [moreNew]
      have e1 : (Op.put x :: r).takeWhile nk = .put x :: r.takeWhile nk := by rw [List.takeWhile_cons_of_pos]; simp [isKeep]
      have e2 : (Op.put x :: r).dropWhile nk = r.dropWhile nk := by rw [List.dropWhile_cons_of_pos]; simp [isKeep]
      rw [List.foldl_cons, e, (ch_inv r).1 [] n (lastTwo kept) [] [x] n f (by simp at hf; omega)]
      have e5 : hunksBy (f + 1) n kept (Op.put x :: r) = ⟨n, kept.drop (kept.length - CONTEXT), (((Op.put x :: r).takeWhile nk).filter isDrop).map lineIn, (((Op.put x :: r).takeWhile nk).filter isPut).map lineIn, (takeKeeps ((Op.put x :: r).dropWhile nk)).take CONTEXT⟩ :: hunksBy f (n + ((((Op.put x :: r).takeWhile nk).filter isDrop).map lineIn).length) [] ((Op.put x :: r).dropWhile nk) := rfl
      rw [e5, e1, e2]
      simp [fDd, fDp, fPd, fPp, lineIn, lastTwo, CONTEXT]
def ch0 : ChS := ⟨[], [], 0⟩
theorem ch_hunks (p : Patch) : (p.foldl chStep ch0).hs = hunks p := ch_first p [] 0 _ (Nat.lt_succ_self _)
end Lp
/-! Places of a change, the nearest one. -/
namespace Lp
open VasedBase Vaseda Vasedc

def rowOfH (h : Hunk) : Text := h.ahead ++ h.old ++ h.rest
def goodAt (t : Text) (h : Hunk) (a : Nat) : Bool := (t.drop a).take (rowOfH h).length == rowOfH h
def turnsOf (t : Text) (h : Hunk) (e : Nat) : Nat := t.length + 1 - ((rowOfH h).length + e)
def spots (t : Text) (h : Hunk) (e : Nat) : List Nat := ((List.range (turnsOf t h e)).filter fun m => goodAt t h (e + m)).map fun m => e + m + h.ahead.length
theorem rowOfH_len (h : Hunk) : (rowOfH h).length = h.ahead.length + h.old.length + h.rest.length := by simp [rowOfH]; omega
theorem mem_spots {t : Text} {h : Hunk} {e j : Nat} : j ∈ spots t h e ↔ (e + h.ahead.length ≤ j ∧ j ≤ t.length - h.old.length ∧ standsAt t h j = true) := by
  have hl := rowOfH_len h
  have hr : h.ahead ++ (h.old ++ h.rest) = rowOfH h := by simp [rowOfH]
  unfold spots standsAt turnsOf
  rw [hr]
  simp only [List.mem_map, List.mem_filter, List.mem_range, Bool.and_eq_true, decide_eq_true_eq]
  constructor
  · rintro ⟨m, ⟨h1, h2⟩, rfl⟩
    refine ⟨by omega, by omega, by omega, ?_⟩
    have q : e + m + h.ahead.length - h.ahead.length = e + m := by omega
    rw [q]; exact h2
  · rintro ⟨h1, h2, h3, h4⟩
    have h5 : (rowOfH h).length ≤ t.length - (j - h.ahead.length) := by
      have := congrArg List.length (eq_of_beq h4)
      simp only [List.length_take, List.length_drop] at this
      omega
    refine ⟨j - h.ahead.length - e, ⟨?_, ?_⟩, by omega⟩
    · by_cases z : (rowOfH h).length = 0
      · omega
      · omega
    · have q : e + (j - h.ahead.length - e) = j - h.ahead.length := by omega
      unfold goodAt
      rw [q]; exact h4
/-- how far, then which is more to the front -/
def farOf (w p : Nat) : Nat := if p < w then w - p else p - w
def nearer (w a b : Nat) : Prop := farOf w a < farOf w b ∨ (farOf w a = farOf w b ∧ a < b)
theorem placesBy_sorted (lo n w : Nat) : (placesBy lo n w).Pairwise (nearer w) := by
  unfold placesBy
  rw [List.pairwise_flatMap]
  refine ⟨fun d _ => ?_, ?_⟩
  · rw [List.pairwise_append]
    refine ⟨by split <;> simp, by split <;> simp, fun a ha b hb => ?_⟩
    split at ha
    · split at hb
      · rename_i c1 c2
        simp only [Bool.and_eq_true, decide_eq_true_eq] at c1 c2
        simp only [List.mem_singleton] at ha hb
        subst ha; subst hb
        unfold nearer farOf
        right
        constructor
        · split <;> split <;> omega
        · omega
      · simp at hb
    · simp at ha
  · refine List.pairwise_lt_range.imp ?_
    intro d d' hd a ha b hb
    have far : ∀ (d a : Nat), a ∈ ((if decide (d ≤ w) && (decide (lo ≤ w - d) && decide (w - d ≤ n)) then [w - d] else []) ++ (if decide (0 < d) && (decide (lo ≤ w + d) && decide (w + d ≤ n)) then [w + d] else [])) → farOf w a = d := by
      intro d a ha
      rw [List.mem_append] at ha
      unfold farOf
      rcases ha with ha | ha
      · split at ha
        · rename_i c
          simp only [Bool.and_eq_true, decide_eq_true_eq] at c
          simp only [List.mem_singleton] at ha
          subst ha
          split <;> omega
        · simp at ha
      · split at ha
        · simp only [List.mem_singleton] at ha
          subst ha
          split <;> omega
        · simp at ha
    left
    rw [far d a ha, far d' b hb]
    exact hd
theorem mem_placesBy {lo n w p : Nat} : p ∈ placesBy lo n w ↔ (lo ≤ p ∧ p ≤ n) := by
  unfold placesBy
  simp only [List.mem_flatMap, List.mem_range, List.mem_append]
  constructor
  · rintro ⟨d, hd, ha | ha⟩
    · split at ha
      · rename_i c
        simp only [Bool.and_eq_true, decide_eq_true_eq] at c
        simp only [List.mem_singleton] at ha
        omega
      · simp at ha
    · split at ha
      · rename_i c
        simp only [Bool.and_eq_true, decide_eq_true_eq] at c
        simp only [List.mem_singleton] at ha
        omega
      · simp at ha
  · rintro ⟨h1, h2⟩
    by_cases c : p ≤ w
    · refine ⟨w - p, by omega, .inl ?_⟩
      have e : w - (w - p) = p := by omega
      rw [e, if_pos (by simp; omega)]
      exact List.mem_singleton.mpr rfl
    · refine ⟨p - w, by omega, .inr ?_⟩
      have e : w + (p - w) = p := by omega
      rw [e, if_pos (by simp; omega)]
      exact List.mem_singleton.mpr rfl
theorem nearer_irr {w a b : Nat} (h : nearer w a b) : ¬ nearer w b a := by
  unfold nearer at *; omega
theorem pick_none {t : Text} {h : Hunk} {e w : Nat} (p : spots t h e = []) : (placesBy (e + h.ahead.length) (t.length - h.old.length) w).find? (standsAt t h) = none := by
  rw [List.find?_eq_none]
  intro x hx hs
  have hx := mem_placesBy.mp hx
  have : x ∈ spots t h e := mem_spots.mpr ⟨hx.1, hx.2, hs⟩
  rw [p] at this
  cases this
theorem pick_some {t : Text} {h : Hunk} {e w j : Nat} (p : j ∈ spots t h e) (m : ∀ i ∈ spots t h e, i = j ∨ nearer w j i) : (placesBy (e + h.ahead.length) (t.length - h.old.length) w).find? (standsAt t h) = some j := by
  obtain ⟨h1, h2, h3⟩ := mem_spots.mp p
  cases c : (placesBy (e + h.ahead.length) (t.length - h.old.length) w).find? (standsAt t h) with
  | none =>
    rw [List.find?_eq_none] at c
    exact absurd h3 (c j (mem_placesBy.mpr ⟨h1, h2⟩))
  | some i =>
    rw [List.find?_eq_some_iff_append] at c
    obtain ⟨si, as, bs, e1, nas⟩ := c
    have hs := placesBy_sorted (e + h.ahead.length) (t.length - h.old.length) w
    have mi : i ∈ placesBy (e + h.ahead.length) (t.length - h.old.length) w := by rw [e1]; simp
    have mi := mem_placesBy.mp mi
    have mj : j ∈ placesBy (e + h.ahead.length) (t.length - h.old.length) w := mem_placesBy.mpr ⟨h1, h2⟩
    rw [e1] at hs mj
    rcases m i (mem_spots.mpr ⟨mi.1, mi.2, si⟩) with q | q
    · rw [q]
    · exfalso
      rcases List.mem_append.mp mj with k | k
      · have := nas j k
        rw [h3] at this
        cases this
      · rcases List.mem_cons.mp k with k | k
        · subst k
          exact nearer_irr q q
        · have := (List.pairwise_append.mp hs).2.1
          have := (List.pairwise_cons.mp this).1 j k
          exact nearer_irr q this
/-- one step of putting the changes to a text -/
theorem driftBy_none {t : Text} {k e : Nat} {d : Int} {h : Hunk} {r : List Hunk} (p : spots t h e = []) : driftBy t k e d (h :: r) = .error k := by
  show (match (placesBy (e + h.ahead.length) (t.length - h.old.length) ((h.at_ : Int) + d).toNat).find? (standsAt t h) with | none => Except.error k | some i => _) = _
  rw [pick_none p]
theorem driftBy_some {t : Text} {k e j : Nat} {d : Int} {h : Hunk} {r : List Hunk} (p : j ∈ spots t h e) (m : ∀ i ∈ spots t h e, i = j ∨ nearer ((h.at_ : Int) + d).toNat j i) : driftBy t k e d (h :: r) = (driftBy t (k + 1) (j + h.old.length) ((j : Int) - (h.at_ : Int)) r).map fun l => (t.drop e).take (j - e) ++ (h.new ++ l) := by
  show (match (placesBy (e + h.ahead.length) (t.length - h.old.length) ((h.at_ : Int) + d).toNat).find? (standsAt t h) with | none => Except.error k | some i => (driftBy t (k + 1) (i + h.old.length) ((i : Int) - (h.at_ : Int)) r).map fun l => (t.drop e).take (i - e) ++ (h.new ++ l)) = _
  rw [pick_some p m]
/-- the run of putting: ms made, from e on, with drift d, changes from k on to come -/
def PutAt (t : Text) (hs : List Hunk) (k e : Nat) (d : Int) (ms : Text) : Prop := driftBy t 0 0 0 hs = (driftBy t k e d (hs.drop k)).map fun l => ms ++ l
theorem putAt_start (t : Text) (hs : List Hunk) : PutAt t hs 0 0 0 [] := by
  unfold PutAt
  rw [List.drop_zero]
  cases driftBy t 0 0 0 hs <;> rfl
theorem putAt_end {t : Text} {hs : List Hunk} {k e : Nat} {d : Int} {ms : Text} (p : PutAt t hs k e d ms) (h : hs.length ≤ k) : driftBy t 0 0 0 hs = .ok (ms ++ t.drop e) := by
  unfold PutAt at p
  rw [p, List.drop_eq_nil_of_le h]; rfl
theorem putAt_none {t : Text} {hs : List Hunk} {k e : Nat} {d : Int} {ms : Text} {h : Hunk} (p : PutAt t hs k e d ms) (hk : hs[k]? = some h) (q : spots t h e = []) : driftBy t 0 0 0 hs = .error k := by
  unfold PutAt at p
  obtain ⟨h1, e1⟩ := List.getElem?_eq_some_iff.mp hk
  rw [p, List.drop_eq_getElem_cons h1, e1, driftBy_none q]; rfl
theorem putAt_some {t : Text} {hs : List Hunk} {k e j : Nat} {d : Int} {ms : Text} {h : Hunk} (p : PutAt t hs k e d ms) (hk : hs[k]? = some h) (q : j ∈ spots t h e) (m : ∀ i ∈ spots t h e, i = j ∨ nearer ((h.at_ : Int) + d).toNat j i) : PutAt t hs (k + 1) (j + h.old.length) ((j : Int) - (h.at_ : Int)) (ms ++ (t.drop e).take (j - e) ++ h.new) := by
  unfold PutAt at *
  obtain ⟨h1, e1⟩ := List.getElem?_eq_some_iff.mp hk
  rw [p, List.drop_eq_getElem_cons h1, e1, driftBy_some q m]
  cases driftBy t (k + 1) (j + h.old.length) ((j : Int) - (h.at_ : Int)) (hs.drop (k + 1)) with
  | error _ => rfl
  | ok l => simp [Except.map, List.append_assoc]
end Lp
/-! Two patches in one; scripts by numbers. -/
namespace Lp
open VasedBase Vaseda Vasedc

def bothOf (a b : Op) : Patch := match b with
  | .keep _ => [a]
  | _ => match a with
    | .keep _ => [b]
    | _ => []
def BothAt (p q : Patch) (i j : Nat) (acc : Patch) : Prop := (∃ f, (p.length - i) + (q.length - j) < f ∧ acc ++ after_ f (p.drop i) (q.drop j) = both p q) ∧ made (p.drop i) = before_ (q.drop j)
theorem bothAt_start {p q : Patch} (h : made p = before_ q) : BothAt p q 0 0 [] := ⟨⟨p.length + q.length + 1, by omega, rfl⟩, h⟩
theorem dropC {α : Type} {l : List α} {i : Nat} {x : α} (h : l[i]? = some x) : i < l.length ∧ l.drop i = x :: l.drop (i + 1) := by
  obtain ⟨h1, h2⟩ := List.getElem?_eq_some_iff.mp h
  exact ⟨h1, by rw [← h2]; exact List.drop_eq_getElem_cons h1⟩
theorem bothAt_drop {p q : Patch} {i j : Nat} {acc : Patch} {x : Line} (b : BothAt p q i j acc) (h : p[i]? = some (.drop x)) : BothAt p q (i + 1) j (acc ++ [.drop x]) := by
  obtain ⟨⟨f, hf, e⟩, s⟩ := b
  obtain ⟨hl, hd⟩ := dropC h
  rw [hd] at e s
  cases f with
  | zero => omega
  | succ f =>
    refine ⟨⟨f, by omega, ?_⟩, s⟩
    rw [← e, List.append_assoc]; rfl
theorem after_put {f : Nat} {p : Patch} {y : Line} {s : Patch} (h : ∀ x, p.head? ≠ some (.drop x)) : after_ (f + 1) p (.put y :: s) = .put y :: after_ f p s := by
  cases p with
  | nil => rfl
  | cons a p =>
    cases a with
    | drop x => exact absurd rfl (h x)
    | keep x => rfl
    | put x => rfl
theorem bothAt_put {p q : Patch} {i j : Nat} {acc : Patch} {y : Line} (b : BothAt p q i j acc) (n : ∀ x, p[i]? ≠ some (.drop x)) (h : q[j]? = some (.put y)) : BothAt p q i (j + 1) (acc ++ [.put y]) := by
  obtain ⟨⟨f, hf, e⟩, s⟩ := b
  obtain ⟨hl, hd⟩ := dropC h
  rw [hd] at e s
  cases f with
  | zero => omega
  | succ f =>
    refine ⟨⟨f, by omega, ?_⟩, s⟩
    rw [← e, List.append_assoc, after_put fun x => by rw [List.head?_drop]; exact n x]; rfl
theorem bothAt_two {p q : Patch} {i j : Nat} {acc : Patch} (b : BothAt p q i j acc) (n : ∀ x, p[i]? ≠ some (.drop x)) (m : ∀ x, q[j]? ≠ some (.put x)) (l : i < p.length ∨ j < q.length) : ∃ o r, p[i]? = some o ∧ q[j]? = some r ∧ BothAt p q (i + 1) (j + 1) (acc ++ bothOf o r) := by
  obtain ⟨⟨f, hf, e⟩, s⟩ := b
  cases hp : p[i]? with
  | none =>
    have hp' : p.length ≤ i := List.getElem?_eq_none_iff.mp hp
    cases hq : q[j]? with
    | none => have := List.getElem?_eq_none_iff.mp hq; omega
    | some r =>
      rw [List.drop_eq_nil_of_le hp', (dropC hq).2] at s
      cases r with
      | put x => exact absurd hq (m x)
      | keep x => cases s
      | drop x => cases s
  | some o =>
    rw [(dropC hp).2] at s e
    cases hq : q[j]? with
    | none =>
      have hq' : q.length ≤ j := List.getElem?_eq_none_iff.mp hq
      rw [List.drop_eq_nil_of_le hq'] at s
      cases o with
      | drop x => exact absurd hp (n x)
      | keep x => cases s
      | put x => cases s
    | some r =>
      rw [(dropC hq).2] at s e
      have h1 := (dropC hp).1
      have h2 := (dropC hq).1
      refine ⟨o, r, rfl, rfl, ?_⟩
      cases f with
      | zero => omega
      | succ f =>
        cases r with
        | put x => exact absurd hq (m x)
        | keep y => cases o with
          | drop x => exact absurd hp (n x)
          | keep x =>
            have s : x :: made (p.drop (i + 1)) = y :: before_ (q.drop (j + 1)) := s
            injection s with s1 s2
            exact ⟨⟨f, by omega, by rw [← e, List.append_assoc]; rfl⟩, s2⟩
          | put x =>
            have s : x :: made (p.drop (i + 1)) = y :: before_ (q.drop (j + 1)) := s
            injection s with s1 s2
            exact ⟨⟨f, by omega, by rw [← e, List.append_assoc]; rfl⟩, s2⟩
        | drop y => cases o with
          | drop x => exact absurd hp (n x)
          | keep x =>
            have s : x :: made (p.drop (i + 1)) = y :: before_ (q.drop (j + 1)) := s
            injection s with s1 s2
            subst s1
            exact ⟨⟨f, by omega, by rw [← e, List.append_assoc]; rfl⟩, s2⟩
          | put x =>
            have s : x :: made (p.drop (i + 1)) = y :: before_ (q.drop (j + 1)) := s
            injection s with s1 s2
            exact ⟨⟨f, by omega, by rw [← e, List.append_assoc]; rfl⟩, s2⟩
theorem bothAt_end {p q : Patch} {i j : Nat} {acc : Patch} (b : BothAt p q i j acc) (h1 : p.length ≤ i) (h2 : q.length ≤ j) : acc = both p q := by
  obtain ⟨⟨f, hf, e⟩, s⟩ := b
  rw [List.drop_eq_nil_of_le h1, List.drop_eq_nil_of_le h2] at e
  cases f with
  | zero => omega
  | succ f => rw [← e]; simp [after_]
theorem bothOf_len (o r : Op) : (bothOf o r).length ≤ 1 := by
  cases o <;> cases r <;> simp [bothOf]

/-! ### scripts by numbers -/
def putCmd (n : Nat) (x : Line) : Cmd := if n = 0 then ⟨.line 1, .before x⟩ else ⟨.line n, .after x⟩
def delOf (gone : Bool) (n : Nat) : List Cmd := if gone = true then [⟨.line n, .delete⟩] else []
structure NumAt (p : Patch) (i : Nat) (cs : List Cmd) (gone : Bool) (n : Nat) : Prop where
  eq : ∃ c1 c2, cs = c1 ++ c2 ∧ cmdsBy 0 [] false p = c1 ++ cmdsBy n c2 gone (p.drop i)
  at_ : n = (before_ (p.take i)).length
  ok : (p.take i).any (fun o => isPut o && !tellable (lineIn o)) = false
  len : cs.length + (delOf gone n).length ≤ i
  non : n = 0 → cs.length = i
theorem numAt_start (p : Patch) : NumAt p 0 [] false 0 := ⟨⟨[], [], rfl, rfl⟩, rfl, rfl, by decide, fun _ => rfl⟩
theorem takeC {α : Type} {l : List α} {i : Nat} {x : α} (h : l[i]? = some x) : l.take (i + 1) = l.take i ++ [x] := by rw [List.take_add_one, h]; rfl
theorem before_app (a b : Patch) : before_ (a ++ b) = before_ a ++ before_ b := by simp [before_, List.filterMap_append]
theorem made_app (a b : Patch) : made (a ++ b) = made a ++ made b := by simp [made, List.filterMap_append]
theorem numAt_put {p : Patch} {i n : Nat} {cs : List Cmd} {gone : Bool} {x : Line} (a : NumAt p i cs gone n) (h : p[i]? = some (.put x)) (t : tellable x = true) : NumAt p (i + 1) (cs ++ [putCmd n x]) gone n := by
  obtain ⟨⟨c1, c2, e1, e2⟩, hn, ok, hl, non⟩ := a
  refine ⟨⟨c1, c2 ++ [putCmd n x], by rw [e1, List.append_assoc], ?_⟩, ?_, ?_, ?_, ?_⟩
  · rw [e2, (dropC h).2]; rfl
  · rw [takeC h, before_app, List.length_append, ← hn]; rfl
  · rw [takeC h, List.any_append, ok]
    simp [isPut, lineIn, t]
  · rw [List.length_append]; simp only [List.length_singleton]; omega
  · intro z; rw [List.length_append, non z]; rfl
theorem numAt_keep {p : Patch} {i n : Nat} {cs : List Cmd} {gone : Bool} {x : Line} (a : NumAt p i cs gone n) (h : p[i]? = some (.keep x)) : NumAt p (i + 1) (cs ++ delOf gone n) false (n + 1) := by
  obtain ⟨⟨c1, c2, e1, e2⟩, hn, ok, hl, non⟩ := a
  refine ⟨⟨c1 ++ (c2 ++ delOf gone n), [], by rw [e1]; simp, ?_⟩, ?_, ?_, ?_, ?_⟩
  · rw [e2, (dropC h).2]
    show c1 ++ (c2 ++ (delOf gone n ++ _)) = _
    simp
  · rw [takeC h, before_app, List.length_append, ← hn]; rfl
  · rw [takeC h, List.any_append, ok]
    simp [isPut, lineIn]
  · rw [List.length_append]; show _ + 0 ≤ _; omega
  · intro z; omega
theorem numAt_drop {p : Patch} {i n : Nat} {cs : List Cmd} {gone : Bool} {x : Line} (a : NumAt p i cs gone n) (h : p[i]? = some (.drop x)) : NumAt p (i + 1) (cs ++ delOf gone n) true (n + 1) := by
  obtain ⟨⟨c1, c2, e1, e2⟩, hn, ok, hl, non⟩ := a
  refine ⟨⟨c1 ++ (c2 ++ delOf gone n), [], by rw [e1]; simp, ?_⟩, ?_, ?_, ?_, ?_⟩
  · rw [e2, (dropC h).2]
    show c1 ++ (c2 ++ (delOf gone n ++ _)) = _
    simp
  · rw [takeC h, before_app, List.length_append, ← hn]; rfl
  · rw [takeC h, List.any_append, ok]
    simp [isPut, lineIn]
  · rw [List.length_append]; show _ + 1 ≤ _; omega
  · intro z; omega
/-- a line that no script can tell -/
theorem numAt_refused {p : Patch} {i n : Nat} {cs : List Cmd} {gone : Bool} {x : Line} (a : NumAt p i cs gone n) (h : p[i]? = some (.put x)) (t : tellable x = false) : scriptOf p = none := by
  unfold scriptOf
  rw [if_pos]
  left
  rw [List.any_eq_true]
  exact ⟨_, List.mem_of_getElem? h, by simp [isPut, lineIn, t]⟩
theorem numAt_end {p : Patch} {i n : Nat} {cs : List Cmd} {gone : Bool} (a : NumAt p i cs gone n) (h : p.length = i) : scriptOf p = if 16 < (cs ++ delOf gone n).length ∨ (n = 0 ∧ cs ++ delOf gone n ≠ []) then none else some (cs ++ delOf gone n) := by
  obtain ⟨⟨c1, c2, e1, e2⟩, hn, ok, hl, non⟩ := a
  have e : cmdsBy 0 [] false p = cs ++ delOf gone n := by
    rw [e2, List.drop_eq_nil_of_le (by omega)]
    show c1 ++ (c2 ++ delOf gone n) = _
    rw [e1, List.append_assoc]
  rw [List.take_of_length_le (by omega)] at hn ok
  unfold scriptOf
  simp only [e]
  have k : ((before_ p).isEmpty && !p.isEmpty) = true ↔ (n = 0 ∧ cs ++ delOf gone n ≠ []) := by
    constructor
    · intro q
      rw [Bool.and_eq_true] at q
      have z : n = 0 := by rw [hn]; simpa using q.1
      refine ⟨z, ?_⟩
      have l := non z
      intro w
      have w1 := congrArg List.length w
      rw [List.length_append] at w1
      simp only [List.length_nil] at w1
      have w2 : p.length = 0 := by omega
      have : p = [] := List.eq_nil_of_length_eq_zero w2
      rw [this] at q
      exact absurd q.2 (by decide)
    · rintro ⟨z, q⟩
      rw [Bool.and_eq_true]
      refine ⟨by rw [z] at hn; simpa using hn.symm, ?_⟩
      cases p with
      | nil =>
        exfalso
        apply q
        have l := non z
        simp only [List.length_nil] at h
        have w2 : (cs ++ delOf gone n).length = 0 := by rw [List.length_append]; omega
        exact List.eq_nil_of_length_eq_zero w2
      | cons _ _ => rfl
  rw [ok]
  by_cases c1 : 16 < (cs ++ delOf gone n).length
  · rw [if_pos (.inr (.inr c1)), if_pos (.inl c1)]
  · by_cases c2 : (n = 0 ∧ cs ++ delOf gone n ≠ [])
    · rw [if_pos (.inr (.inl (k.mpr c2))), if_pos (.inr c2)]
    · rw [if_neg, if_neg]
      · rintro (q | q)
        · exact c1 q
        · exact c2 q
      · rintro (q | q | q)
        · cases q
        · exact c2 (k.mp q)
        · exact c1 q
end Lp
set_option maxRecDepth 100000
set_option maxHeartbeats 2000000
namespace Lp
open PySem PySem.Spec PyProof.Rows L2
section
variable {P : Program} {w : World} {K : PySem.W.Frag} {mg : Str → Option Value} {base : Heap} {A : Ad}
def isLetI (n : Int) : Bool := decide (97 ≤ n) && decide (n ≤ 122)
def spIsLetter : Sp := fun vs H Q _ => ∃ n : Int, vs = [.int n] ∧ Q (.bl (isLetI n)) H
abbrev N_is_letter : List Str := ["byte"]
theorem sc_is_letter : FnScope N_is_letter ["byte"] (defScope (top 5)) := ⟨rfl, rfl, rfl, by decide +kernel, rfl, by decide +kernel, by decide +kernel⟩
theorem k_is_letter (T : Txt K mg A) : Ok P w K mg base 1 "is_letter" spIsLetter := by
  refine ok_mk T.d_is_letter sc_is_letter (fun vs H Q E ⟨n, e, _⟩ => by rw [e]; rfl) fun f cdv AA outer s H vs Q E hr tk po h => ⟨_, (pss_one (ps_ret (pe_chain op_le op_le (pe_gv T.c_FIRST_LETTER) (pv 0) (pe_gv T.c_LAST_LETTER)))), ?_⟩
  obtain ⟨n, rfl, q⟩ := h
  refine ⟨_, rfl, _, _, rfl, rfl, _, rfl, ?_⟩
  unfold isLetI at q
  refine if_2 (fun c => ?_) fun c => ?_
  · rw [c] at q
    exact ⟨_, _, rfl, rfl, q⟩
  · rw [c] at q
    exact q
def spLetterOf : Sp := fun vs H Q _ => ∃ b : UInt8, vs = [.int b.toNat] ∧ VasedBase.isLetter b = true ∧ Q (sV [b]) H
abbrev N_letter_of : List Str := ["byte"]
theorem sc_letter_of : FnScope N_letter_of ["byte"] (defScope (top 6)) := ⟨rfl, rfl, rfl, by decide +kernel, rfl, by decide +kernel, by decide +kernel⟩
def abc : List Nat := [97,98,99,100,101,102,103,104,105,106,107,108,109,110,111,112,113,114,115,116,117,118,119,120,121,122]
theorem abc_is : (Str.ofString "abcdefghijklmnopqrstuvwxyz").cps.toList = abc := by decide +kernel
theorem abc_get : ∀ n : Fin 26, abc[n.val]? = some (n.val + 97) := by decide
theorem k_letter_of (T : Txt K mg A) : Ok P w K mg base 1 "letter_of" spLetterOf := by
  refine ok_mk T.d_letter_of sc_letter_of (fun vs H Q E ⟨n, e, _⟩ => by rw [e]; rfl) fun f cdv AA outer s H vs Q E hr tk po h => ⟨_, (pss_one (ps_ret (pe_ix ix_str (pe_gv T.c_LETTERS) (pe_op op_sub (pv 0) (pe_gv T.c_FIRST_LETTER)) (fun _ _ => rfl)))), ?_⟩
  obtain ⟨b, rfl, hb, q⟩ := h
  unfold VasedBase.isLetter at hb
  have hb := of_decide_eq_true hb
  refine ⟨_, rfl, _, _, rfl, rfl, ?_⟩
  refine ⟨_, _, b.toNat, rfl, rfl, by decide +kernel, ?_, q⟩
  rw [abc_is]
  refine at_n (j := b.toNat - 97) ?_ (by omega)
  have := abc_get ⟨b.toNat - 97, by omega⟩
  rw [this]
  exact congrArg some (show b.toNat - 97 + 97 = b.toNat by omega)
end
end Lp
set_option maxRecDepth 100000
set_option maxHeartbeats 2000000
namespace Lp
open PySem PySem.Spec PyProof.Rows L2
open VasedBase (Bytes)
open Vaseda (Line Text)
open Vasedc (Op Patch lineIn before_ turned costOf isKeep isPut isDrop)
/-- a byte as a number -/
abbrev iB (b : UInt8) : V := .int b.toNat
def kind : Op → Int
  | .keep _ => 0
  | .drop _ => 1
  | .put _ => 2
abbrev opV (o : Op) : List V := [.int (kind o), sV (lineIn o)]
/-- the marks of a patch: a list of tuples -/
abbrev MarksAt (H : Hp) (a : Addr) (p : Patch) : Prop := TupL opV H a p
section
variable {P : Program} {w : World} {K : PySem.W.Frag} {mg : Str → Option Value} {base : Heap} {A : Ad}
def spBytesOf : Sp := fun vs H Q _ => ∃ b : Bytes, vs = [sV b] ∧ b.length ≤ 16777216 ∧ NewL H Q (b.map iB)
abbrev N_bytes_of : List Str := ["told", "sign"]
theorem sc_bytes_of : FnScope N_bytes_of ["told"] (defScope (top 7)) := ⟨rfl, rfl, rfl, by decide +kernel, rfl, by decide +kernel, by decide +kernel⟩
theorem k_bytes_of (T : Txt K mg A) : Ok P w K mg base 1 "bytes_of" spBytesOf := by
  refine ok_mk T.d_bytes_of sc_bytes_of (fun vs H Q E ⟨n, e, _⟩ => by rw [e]; rfl) fun f cdv AA outer s H vs Q E hr tk po h => ⟨_, (pss_one (ps_ret (pe_lc (own := [("sign", 1)]) (g := gName 1) rfl sc_bytes_of.nd (pi_str (pv 0)) (blkOk_by (own := [("sign", 1)]) (N := N_bytes_of) (sc := defScope (top 7)) (by decide +kernel)) (fun _ _ _ _ _ => pg_name (i := 1) sc_bytes_of.nd rfl (Or.inl rfl)) (fun _ _ _ _ _ => pts_nil) (fun _ _ _ _ _ => (pe_callB call_ord rfl T.b_ord (by decide +kernel) (pa_cons (pv 1) pa_nil)))))), ?_⟩
  obtain ⟨b, rfl, hb, q⟩ := h
  refine ⟨_, rfl, _, rfl, fun D hD => ?_⟩
  refine lc_it (walk_str (z := toS b)) (fun i H' => CInv H D ((b.take i).map iB) H') (.zero hD) (fun i H' _ _ => trivial) (fun i x H1 H2 hi p y => ?_) (fun H' p => ?_)
  · obtain ⟨rfl, c, hc, rfl⟩ := y
    rw [← Array.getElem?_toList, toS_cps] at hc
    obtain ⟨y, hy, rfl⟩ := map_get hc
    refine ⟨rfl, ?_⟩
    refine ⟨_, rfl, _, rfl, rfl, _, p.1, ?_, p.snoc hD (Same.refl _) ?_⟩
    · rw [List.length_map, List.length_take]
      have := get_lt hy
      exact Nat.lt_of_lt_of_le (Nat.lt_of_le_of_lt (Nat.min_le_left _ _) this) (sz16 hb)
    · rw [take_more hy, List.map_append]; rfl
  · obtain ⟨h1, h2⟩ := p
    rw [show (toS b).cps.size = b.length from toS_len b, List.take_length] at h1
    exact q H' D h2 hD h1
def spOtherWay : Sp := fun vs H Q _ => ∃ k : Int, vs = [.int k] ∧ Q (.int (if k = 1 then 2 else if k = 2 then 1 else 0)) H
abbrev N_other_way : List Str := ["mark"]
theorem sc_other_way : FnScope N_other_way ["mark"] (defScope (top 16)) := ⟨rfl, rfl, rfl, by decide +kernel, rfl, by decide +kernel, by decide +kernel⟩
theorem k_other_way (T : Txt K mg A) : Ok P w K mg base 1 "other_way" spOtherWay := by
  refine ok_mk T.d_other_way sc_other_way (fun vs H Q E ⟨n, e, _⟩ => by rw [e]; rfl) fun f cdv AA outer s H vs Q E hr tk po h => ⟨_, (pss_cons (ps_if (pt_cmpR op_eq (pv 0) (pe_gv T.c_TAKEN_OUT) (nomark _)) (pss_one (ps_ret (pe_gv T.c_PUT_IN))) pss_nil)
    (pss_cons (ps_if (pt_cmpR op_eq (pv 0) (pe_gv T.c_PUT_IN) (nomark _)) (pss_one (ps_ret (pe_gv T.c_TAKEN_OUT))) pss_nil)
    (pss_one (ps_ret (pe_gv T.c_KEPT))))), ?_⟩
  obtain ⟨k, rfl, q⟩ := h
  refine ⟨_, rfl, rfl, _, rfl, if_2 (fun c => ?_) fun c => ?_⟩
  · have c : k = 1 := V.int.inj (of_decide_eq_true c)
    rw [if_pos c] at q
    exact q
  · have c : ¬ k = 1 := fun e => absurd (congrArg V.int e) (of_decide_eq_false c)
    rw [if_neg c] at q
    refine ⟨_, rfl, rfl, _, rfl, if_2 (fun c => ?_) fun c => ?_⟩
    · have c : k = 2 := V.int.inj (of_decide_eq_true c)
      rw [if_pos c] at q
      exact q
    · have c : ¬ k = 2 := fun e => absurd (congrArg V.int e) (of_decide_eq_false c)
      rw [if_neg c] at q
      exact q
def turn1 : Op → Op
  | .keep x => .keep x
  | .drop x => .put x
  | .put x => .drop x
theorem turned_is (p : Patch) : turned p = p.map turn1 := by
  unfold turned
  apply List.map_congr_left
  intro o _
  cases o <;> rfl
theorem opV_turn (o : Op) : opV (turn1 o) = [.int (if kind o = 1 then 2 else if kind o = 2 then 1 else 0), sV (lineIn o)] := by
  cases o <;> rfl
def spTurned : Sp := fun vs H Q _ => ∃ a p, vs = [.ref a] ∧ MarksAt H a p ∧ p.length ≤ 100000 ∧ New H Q fun H' D => MarksAt H' D (turned p)
abbrev N_turned_round : List Str := ["marks", "mark", "line"]
theorem sc_turned_round : FnScope N_turned_round ["marks"] (defScope (top 15)) := ⟨rfl, rfl, rfl, by decide +kernel, rfl, by decide +kernel, by decide +kernel⟩
theorem k_turned_round (T : Txt K mg A) : Ok P w K mg base 2 "turned_round" spTurned := by
  refine ok_mk T.d_turned_round sc_turned_round (fun vs H Q E ⟨n, _, e, _⟩ => by rw [e]; rfl) fun f cdv AA outer s H vs Q E hr tk po h => ⟨_, (pss_one (ps_ret (pe_lc (own := [("mark", 1), ("line", 2)]) (g := gTup K 2 (gCons (gName 1) (gCons (gName 2) gNil))) rfl sc_turned_round.nd (pi_list (pv 0)) (blkOk_by (own := [("mark", 1), ("line", 2)]) (N := N_turned_round) (sc := defScope (top 15)) (by decide +kernel)) (fun _ _ _ _ _ => pg_tup rfl (pgs_cons (pg_name (i := 1) sc_turned_round.nd rfl (Or.inl rfl)) (pgs_cons (pg_name (i := 2) sc_turned_round.nd rfl (Or.inl rfl)) pgs_nil))) (fun _ _ _ _ _ => pts_nil) (fun _ _ _ _ _ => (pe_tup (pa_cons (pe_k (k_other_way T) hr takes0 (pa_cons (pv 1) pa_nil)) (pa_cons (pv 2) pa_nil))))))), ?_⟩
  obtain ⟨a, p, rfl, ⟨rs, h1, h2⟩, hp, q⟩ := h
  refine ⟨_, rfl, a, rfl, ⟨_, SqL.of h1⟩, fun D hD => ?_⟩
  refine lc_list (K := K) (a := a) (xs := rs.map V.ref) (fun i H' => Same H H' ∧ MarksAt H' D (turned (p.take i))) ⟨same_new hD, .nil upd_same⟩ (fun i H' _ pv => SqL.of (pv.1 a _ h1)) (fun i x H1 hx pv => ?_) (fun H' pv => ?_)
  · obtain ⟨r, hr, rfl⟩ := map_get hx
    obtain ⟨o, ho, hro⟩ := h2.get hr
    refine ⟨r, _, rfl, SqT.of (pv.1 r _ hro), rfl, ?_⟩
    refine ⟨_, _, rfl, _, _, rfl, rfl, rfl, ?_⟩
    refine ⟨_, rfl, _, rfl, ?_⟩
    refine ⟨_, rfl, sz2, fun t ht => ?_⟩
    obtain ⟨acc, hacc⟩ := pv.2.at_
    have hl := pv.2.len hacc
    have kt : KeepT H1 (upd H1 t (.tup (opV (turn1 o)))) := KeepT.upN ht
    have hd : upd H1 t (.tup (opV (turn1 o))) D = H1 D := upd_ne (ne_of_none hacc ht)
    have et := opV_turn o
    rw [← et]
    refine ⟨acc, by rw [hd]; exact hacc, ?_, same_upd (same_trans pv.1 (same_new ht)) hD, ?_⟩
    · rw [hl, turned_is, List.length_map, List.length_take]
      have := get_lt ho
      exact sz_lt (by omega)
    · have e : turned (p.take (i + 1)) = turned (p.take i) ++ [turn1 o] := by
        rw [turned_is, turned_is, take_more ho, List.map_append]; rfl
      rw [e]
      exact (pv.2.keep hd kt).push upd_same (by rw [hd]; exact hacc)
  · rw [List.length_map, h2.len, List.take_length] at pv
    exact q H' D pv.1 hD pv.2
end
end Lp
set_option maxRecDepth 100000
set_option maxHeartbeats 2000000
namespace Lp
open PySem PySem.Spec PyProof.Rows L2
open VasedBase (Bytes)
open Vaseda (Line Text)
open Vasedc (Op Patch lineIn before_ turned costOf isKeep isPut isDrop)
section
variable {P : Program} {w : World} {K : PySem.W.Frag} {mg : Str → Option Value} {base : Heap} {A : Ad}
theorem kind0 {o : Op} : kind o = 0 ↔ isKeep o = true := by cases o <;> simp [kind, isKeep]
theorem kind1 {o : Op} : kind o = 1 ↔ ∃ x, o = .drop x := by cases o <;> simp [kind]
theorem kind2 {o : Op} : kind o = 2 ↔ ∃ x, o = .put x := by cases o <;> simp [kind]
/-- two whole numbers alike -/
theorem int_t {a b : Int} (c : decide (V.int a = V.int b) = true) : a = b := V.int.inj (of_decide_eq_true c)
theorem int_f {a b : Int} (c : decide (V.int a = V.int b) = false) : ¬ a = b := fun e => absurd (congrArg V.int e) (of_decide_eq_false c)
theorem str_t {a b : Bytes} (c : decide (sV a = sV b) = true) : a = b := sV_inj (of_decide_eq_true c)
theorem str_f {a b : Bytes} (c : decide (sV a = sV b) = false) : ¬ a = b := fun e => absurd (congrArg sV e) (of_decide_eq_false c)
theorem nint_t {a b : Int} (c : (!decide (V.int a = V.int b)) = true) : ¬ a = b := int_f (by simpa using c)
theorem nint_f {a b : Int} (c : (!decide (V.int a = V.int b)) = false) : a = b := int_t (by simpa using c)
def spMarksOfBoth : Sp := fun vs H Q _ => ∃ r1 r2 o r, vs = [.ref r1, .ref r2] ∧ H r1 = some (.tup (opV o)) ∧ H r2 = some (.tup (opV r)) ∧ ∀ H' D, Same H H' → H D = none → (∃ xs : List Addr, H' D = some (.lst (xs.map V.ref)) ∧ AllAt (fun r o => H' r = some (.tup (opV o))) xs (bothOf o r)) → Q (.ref D) H'
abbrev N_marks_of_both : List Str := ["first", "second"]
theorem sc_marks_of_both : FnScope N_marks_of_both ["first", "second"] (defScope (top 18)) := ⟨rfl, rfl, rfl, by decide +kernel, rfl, by decide +kernel, by decide +kernel⟩
theorem k_marks_of_both (T : Txt K mg A) : Ok P w K mg base 1 "marks_of_both" spMarksOfBoth := by
  refine ok_mk T.d_marks_of_both sc_marks_of_both (fun vs H Q E ⟨_, _, _, _, e, _⟩ => by rw [e]; rfl) fun f cdv AA outer s H vs Q E hr tk po h => ⟨_, (pss_cons (ps_if (pt_cmpR op_eq (pe_ix ix_tup (pv 1) pe_int (fun _ _ => rfl)) (pe_gv T.c_KEPT) (nomark _)) (pss_one (ps_ret (pe_lst (pa_cons (pv 0) pa_nil)))) pss_nil)
    (pss_cons (ps_if (pt_cmpR op_eq (pe_ix ix_tup (pv 0) pe_int (fun _ _ => rfl)) (pe_gv T.c_KEPT) (nomark _)) (pss_one (ps_ret (pe_lst (pa_cons (pv 1) pa_nil)))) pss_nil)
    (pss_one (ps_ret (pe_lst pa_nil))))), ?_⟩
  obtain ⟨r1, r2, o, r, rfl, h1, h2, q⟩ := h
  refine ⟨_, rfl, ?_⟩
  refine ⟨r2, opV r, 0, _, rfl, rfl, SqT.of h2, rfl, ?_⟩
  refine ⟨rfl, _, rfl, if_2 (fun c => ?_) fun c => ?_⟩
  · have c := kind0.mp (int_t c)
    refine ⟨_, rfl, sz1, fun D hD => q _ _ (same_new hD) hD ⟨[r1], upd_same, ?_⟩⟩
    have e : bothOf o r = [o] := by cases r <;> simp [isKeep] at c; rfl
    rw [e]
    exact .one (by rw [upd_ne (ne_of_none h1 hD)]; exact h1)
  · have c : ¬ isKeep r = true := fun z => int_f c (kind0.mpr z)
    refine ⟨_, rfl, ?_⟩
    refine ⟨r1, opV o, 0, _, rfl, rfl, SqT.of h1, rfl, ?_⟩
    refine ⟨rfl, _, rfl, if_2 (fun c2 => ?_) fun c2 => ?_⟩
    · have c2 := kind0.mp (int_t c2)
      refine ⟨_, rfl, sz1, fun D hD => q _ _ (same_new hD) hD ⟨[r2], upd_same, ?_⟩⟩
      have e : bothOf o r = [r] := by cases o <;> simp [isKeep] at c2; cases r <;> simp [isKeep] at c <;> rfl
      rw [e]
      exact .one (by rw [upd_ne (ne_of_none h2 hD)]; exact h2)
    · have c2 : ¬ isKeep o = true := fun z => int_f c2 (kind0.mpr z)
      refine ⟨Nat.zero_le _, fun D hD => q _ _ (same_new hD) hD ⟨[], upd_same, ?_⟩⟩
      have e : bothOf o r = [] := by cases o <;> simp [isKeep] at c2 <;> cases r <;> simp [isKeep] at c <;> rfl
      rw [e]
      exact .nil
def spCost : Sp := fun vs H Q _ => ∃ a p, vs = [.ref a] ∧ MarksAt H a p ∧ p.length ≤ 100000 ∧ ∀ H', Same H H' → Q (.int (costOf p)) H'
abbrev N_cost_of : List Str := ["marks", "mark", "line"]
theorem sc_cost_of : FnScope N_cost_of ["marks"] (defScope (top 19)) := ⟨rfl, rfl, rfl, by decide +kernel, rfl, by decide +kernel, by decide +kernel⟩
theorem k_cost_of (T : Txt K mg A) : Ok P w K mg base 1 "cost_of" spCost := by
  refine ok_mk T.d_cost_of sc_cost_of (fun vs H Q E ⟨_, _, e, _⟩ => by rw [e]; rfl) fun f cdv AA outer s H vs Q E hr tk po h => ⟨_, (pss_one (ps_ret (pe_len T.b_len (pe_lc (own := [("mark", 1), ("line", 2)]) (g := gTup K 2 (gCons (gName 1) (gCons (gName 2) gNil))) rfl sc_cost_of.nd (pi_list (pv 0)) (blkOk_by (own := [("mark", 1), ("line", 2)]) (N := N_cost_of) (sc := defScope (top 19)) (by decide +kernel)) (fun _ _ _ _ _ => pg_tup rfl (pgs_cons (pg_name (i := 1) sc_cost_of.nd rfl (Or.inl rfl)) (pgs_cons (pg_name (i := 2) sc_cost_of.nd rfl (Or.inl rfl)) pgs_nil))) (fun _ _ _ _ _ => pts_one (pt_cmpR op_ne (pv 1) (pe_gv T.c_KEPT) (nomark _))) (fun _ _ _ _ _ => (pv 1)))))), ?_⟩
  obtain ⟨a, p, rfl, ⟨rs, h1, h2⟩, hp, q⟩ := h
  refine ⟨_, rfl, a, rfl, ⟨_, SqL.of h1⟩, fun D hD => ?_⟩
  refine lc_list (K := K) (a := a) (xs := rs.map V.ref) (fun i H' => ∃ acc, CInv H D acc H' ∧ acc.length = ((p.take i).filter fun o => !isKeep o).length) ⟨_, .zero hD, rfl⟩ (fun i H' _ ⟨acc, pv, _⟩ => SqL.of (pv.2 a _ h1)) (fun i x H1 hx ⟨acc, pv, hl⟩ => ?_) (fun H' ⟨acc, pv, hl⟩ => ?_)
  · obtain ⟨r, hr, rfl⟩ := map_get hx
    obtain ⟨o, ho, hro⟩ := h2.get hr
    refine ⟨r, _, rfl, SqT.of (pv.2 r _ hro), rfl, ?_⟩
    refine ⟨_, _, rfl, _, _, rfl, rfl, rfl, ?_⟩
    refine ⟨_, rfl, rfl, _, rfl, if_2 (fun c => ?_) fun c => ?_⟩
    · have c : ¬ isKeep o = true := fun z => nint_t c (kind0.mpr z)
      refine ⟨_, rfl, acc, pv.1, ?_, acc ++ [.int (kind o)], pv.snoc hD (Same.refl _) rfl, ?_⟩
      · rw [hl]
        have := get_lt ho
        have h3 := List.length_filter_le (fun o => !isKeep o) (p.take i)
        rw [List.length_take] at h3
        exact sz_lt (by omega)
      · rw [List.length_append, hl, take_more ho, List.filter_append, List.length_append]
        simp [List.filter, c]
    · have c := kind0.mp (nint_f c)
      refine ⟨acc, pv, ?_⟩
      rw [hl, take_more ho, List.filter_append, List.length_append]
      simp [List.filter, c]
  · rw [List.length_map, h2.len, List.take_length] at hl
    refine ⟨D, acc, rfl, SqL.of pv.1, ?_⟩
    rw [hl]
    exact q H' pv.2
structure POk (p : Patch) : Prop where
  len : p.length ≤ 1000
  ln : ∀ o ∈ p, (lineIn o).length ≤ 1000
open Vasedc in
theorem cost_keep (p : Patch) : costOf p + (p.filter isKeep).length = p.length := by
  unfold costOf
  induction p with
  | nil => rfl
  | cons o p ih =>
    simp only [List.filter_cons]
    cases h : isKeep o <;> simp [h] <;> omega
def toldP (p : Patch) : List Int := VasedcNeutral.encode (Vasedc.patchAnswer p)
theorem opRow_len (o : Op) : (Vasedc.opRow o).length ≤ 2 + (lineIn o).length := by cases o <;> simp [Vasedc.opRow, VasedBase.textRow, lineIn] <;> omega
theorem rows_len : ∀ (p : Patch), (∀ o ∈ p, (lineIn o).length ≤ 1000) → (p.flatMap Vasedc.opRow).length ≤ 1002 * p.length
  | [], _ => Nat.le_refl _
  | o :: p, h => by
    rw [List.flatMap_cons, List.length_append, List.length_cons]
    have h1 := opRow_len o
    have h2 := h o (List.mem_cons_self ..)
    have h3 := rows_len p fun x hx => h x (List.mem_cons_of_mem _ hx)
    omega
def toldHead (p : Patch) : List Int := [(costOf p : Int), (p.length : Int), ((p.filter isKeep).length : Int)]
def spToldPatch : Sp := fun vs H Q _ => ∃ a p, vs = [.ref a] ∧ MarksAt H a p ∧ POk p ∧ NewL H Q ((toldP p).map V.int)
abbrev N_told_patch : List Str := ["marks", "cost", "told", "mark", "line"]
theorem sc_told_patch : FnScope N_told_patch ["marks"] (defScope (top 20)) := ⟨rfl, rfl, rfl, by decide +kernel, rfl, by decide +kernel, by decide +kernel⟩
theorem k_told_patch (T : Txt K mg A) : Ok P w K mg base 2 "told_patch" spToldPatch := by
  refine ok_mk T.d_told_patch sc_told_patch (fun vs H Q E ⟨_, _, e, _⟩ => by rw [e]; rfl) fun f cdv AA outer s H vs Q E hr tk po h => ⟨_, (pss_cons (ps_set (i := 1) sc_told_patch.nd rfl (Or.inl rfl) (pe_k (k_cost_of T) hr tk (pa_cons (pv 0) pa_nil)))
    (pss_cons (ps_set (i := 2) sc_told_patch.nd rfl (Or.inl rfl) (pe_lst (pa_cons (pv 1) (pa_cons (pe_len T.b_len (pv 0)) (pa_cons (pe_op op_sub (pe_len T.b_len (pv 0)) (pv 1)) pa_nil)))))
    (pss_cons (ps_for po rfl (pi_list (pv 0)) (pg_tup rfl (pgs_cons (pg_name (i := 3) sc_told_patch.nd rfl (Or.inl rfl)) (pgs_cons (pg_name (i := 4) sc_told_patch.nd rfl (Or.inl rfl)) pgs_nil))) (pss_cons (ps_expr (pe_bm PySem.F.plainAttrs_list PySem.F.slot_list_append PySem.F.type_list_append mt_append (pv 2) (pa_cons (pv 3) pa_nil)))
    (pss_one (ps_if (pt_cmpR op_eq (pv 3) (pe_gv T.c_PUT_IN) (nomark _)) (pss_cons (ps_expr (pe_bm PySem.F.plainAttrs_list PySem.F.slot_list_append PySem.F.type_list_append mt_append (pv 2) (pa_cons (pe_lenT T.b_len (pv 4)) pa_nil)))
    (pss_one (ps_expr (pe_bm PySem.F.plainAttrs_list PySem.F.slot_list_extend PySem.F.type_list_extend mt_extend (pv 2) (pa_cons (pe_k (k_bytes_of T) hr tk (pa_cons (pv 4) pa_nil)) pa_nil))))) pss_nil))))
    (pss_one (ps_ret (pv 2)))))), ?_⟩
  obtain ⟨a, p, rfl, hm, hp, q⟩ := h
  refine ⟨_, rfl, ?_⟩
  refine ⟨a, p, rfl, hm, Nat.le_trans hp.len (by decide), fun H0 e0 => ?_⟩
  obtain ⟨rs, h1, h2⟩ := hm
  have hl : (rs.map V.ref).length = p.length := by rw [List.length_map, h2.len]
  refine ⟨_, rfl, _, rfl, a, _, rfl, SqL.of (e0 a _ h1), ?_⟩
  refine ⟨_, rfl, a, _, rfl, SqL.of (e0 a _ h1), ?_⟩
  refine ⟨_, rfl, _, _, rfl, rfl, sz3, fun D hD => ?_⟩
  rw [hl]
  refine ⟨_, rfl, a, rfl, ⟨_, SqL.of (same_new hD a _ (e0 a _ h1))⟩, ?_⟩
  have kc := cost_keep p
  have lens : ∀ i, i ≤ p.length → ((toldHead p ++ (p.take i).flatMap Vasedc.opRow).map V.int).length ≤ 3 + 1002 * i := fun i hi => by
    rw [List.length_map, List.length_append]
    have := rows_len (p.take i) fun o ho => hp.ln o (List.mem_of_mem_take ho)
    rw [List.length_take, Nat.min_eq_left hi] at this
    have : (toldHead p).length = 3 := rfl
    omega
  refine for_list (K := K) (a := a) (xs := rs.map V.ref) (fun i σ H' => ∃ m l, σ = [some (.ref a), some (.int (costOf p)), some (.ref D), m, l] ∧ CInv H0 D ((toldHead p ++ (p.take i).flatMap Vasedc.opRow).map V.int) H') ?_ ?_ ?_ ?_
  · refine ⟨none, none, rfl, ?_, same_new hD⟩
    rw [upd_same, List.take_zero]
    have : (p.length : Int) - (costOf p : Int) = ((p.filter isKeep).length : Int) := by omega
    show some (HO.lst [V.int ↑(costOf p), V.int ↑(List.length p), V.int ((p.length : Int) - (costOf p : Int))]) = _
    rw [this]; rfl
  · rintro i σ H' _ ⟨m, l, rfl, pv⟩
    exact SqL.of (pv.2 a _ (e0 a _ h1))
  · rintro i x σ H' hx ⟨m, l, rfl, pv⟩
    obtain ⟨r, hr, rfl⟩ := map_get hx
    obtain ⟨o, ho, hro⟩ := h2.get hr
    have hi := get_lt ho
    refine ⟨r, _, rfl, SqT.of (pv.2 r _ (e0 r _ hro)), rfl, ?_⟩
    refine ⟨_, _, rfl, _, _, rfl, rfl, ?_⟩
    have len := lens i (Nat.le_of_lt hi)
    refine ⟨_, rfl, .inl ⟨rfl, _, SqL.of pv.1⟩, _, rfl, D, _, _, rfl, rfl, pv.1, Nat.lt_of_le_of_lt len (Nat.lt_of_lt_of_le (show 3 + 1002 * i < 2000000 by have := hp.len; omega) (by decide)), ?_⟩
    refine ⟨_, rfl, rfl, _, rfl, if_2 (fun c => ?_) fun c => ?_⟩
    · obtain ⟨z, rfl⟩ := kind2.mp (int_t c)
      have hz := hp.ln _ (List.mem_of_getElem? ho)
      have hzs := toS_len z
      refine ⟨_, rfl, .inl ⟨rfl, _, SqL.of upd_same⟩, _, rfl, _, rfl, by show (toS z).length ≤ _; rw [hzs]; exact sz_of (Nat.le_trans hz (by decide)), D, _, _, rfl, rfl, upd_same, ?_, ?_⟩
      · rw [List.length_append]
        exact Nat.lt_of_le_of_lt (Nat.add_le_add_right len 1) (Nat.lt_of_lt_of_le (show 3 + 1002 * i + 1 < 2000000 by have := hp.len; omega) (by decide))
      · refine ⟨_, rfl, .inl ⟨rfl, _, SqL.of upd_same⟩, _, rfl, z, rfl, Nat.le_trans hz (by decide), fun H2 D2 e2 hD2 h2' => ?_⟩
        refine ⟨D, D2, _, _, rfl, rfl, e2 D _ upd_same, h2', ?_, _, _, rfl, ?_⟩
        · show ((_ ++ [V.int (kind (Op.put z))]) ++ [V.int ((toS z).length : Nat)]).length + (z.map iB).length ≤ sizeLine
          rw [List.length_append, List.length_append, List.length_map (as := z)]
          have hz : z.length ≤ 1000 := hz
          exact Nat.le_trans (show _ ≤ 2000000 from by
            show _ + 1 + 1 + _ ≤ 2000000
            have := hp.len
            omega) (by decide)
        · refine ((pv.more hD (Same.refl _) rfl).more hD (Same.refl _) rfl).more hD e2 ?_
          rw [take_more ho, List.flatMap_append, ← List.append_assoc, List.map_append]
          have e3 : List.flatMap Vasedc.opRow [Op.put z] = 2 :: (z.length : Int) :: z.map fun c => (c.toNat : Int) := by simp [Vasedc.opRow, VasedBase.textRow]
          rw [e3]
          show _ = ((_ ++ [V.int 2]) ++ [V.int ((toS z).length : Nat)]) ++ z.map iB
          rw [hzs]
          simp
    · refine ⟨_, _, rfl, pv.more hD (Same.refl _) ?_⟩
      rw [take_more ho, List.flatMap_append, ← List.append_assoc, List.map_append]
      cases o with
      | keep x => rfl
      | drop x => rfl
      | put x => exact absurd rfl (int_f c)
  · rintro σ H' ⟨m, l, rfl, pv⟩
    rw [hl, List.take_length] at pv
    exact ⟨_, rfl, q H' D (same_trans e0 pv.2) (none_back e0 hD) pv.1⟩
end
end Lp
set_option maxRecDepth 100000
set_option maxHeartbeats 2000000
namespace Lp
open PySem PySem.Spec PyProof.Rows L2
open VasedBase (Bytes)
open Vaseda (Line Text)
open Vasedc (Op Patch lineIn before_ turned costOf isKeep isPut isDrop rowOf tableOf cell)
abbrev nV (n : Nat) : V := .int (n : Int)
abbrev LnAt (H : Hp) (a : Addr) (t : Text) : Prop := H a = some (.lst (t.map sV))
section
variable {P : Program} {w : World} {K : PySem.W.Frag} {mg : Str → Option Value} {base : Heap} {A : Ad}
def spCountsWith : Sp := fun vs H Q _ => ∃ (x : Line) (b wa : Addr) (t : Text) (ws : List Nat), vs = [sV x, .ref b, .ref wa] ∧ LnAt H b t ∧ H wa = some (.lst (ws.map nV)) ∧ ws.length = t.length + 1 ∧ t.length ≤ 1000 ∧ NewL H Q ((rowOf x t ws).map nV)
abbrev N_counts_with : List Str := ["line", "second", "without", "counts", "j"]
theorem sc_counts_with : FnScope N_counts_with ["line", "second", "without"] (defScope (top 14)) := ⟨rfl, rfl, rfl, by decide +kernel, rfl, by decide +kernel, by decide +kernel⟩
theorem ge0 (n : Nat) : (0 : Int) ≤ n := Int.natCast_nonneg n
theorem ixN_nat {n j : Nat} {z : Int} (e : z = (j : Int)) (h : j < n) : ixN n z = some j := by
  subst e
  unfold ixN
  rw [if_pos (ge0 j), if_pos (by omega)]; rfl
theorem rep_one (n : Nat) (v : V) : (List.replicate n [v]).flatten = List.replicate n v := by
  induction n with
  | zero => rfl
  | succ n ih => rw [List.replicate_succ, List.flatten_cons, ih]; rfl
def rowAt (x : Line) (t : Text) (ws : List Nat) (i : Nat) : List Nat := List.replicate (t.length - i) 0 ++ rowOf x (t.drop (t.length - i)) (ws.drop (t.length - i))
theorem k_counts_with (T : Txt K mg A) : Ok P w K mg base 1 "counts_with" spCountsWith := by
  refine ok_mk T.d_counts_with sc_counts_with (fun vs H Q E ⟨_, _, _, _, _, e, _⟩ => by rw [e]; rfl) fun f cdv AA outer s H vs Q E hr tk po h => ⟨_, (pss_cons (ps_set (i := 3) sc_counts_with.nd rfl (Or.inl rfl) (pe_op op_rep (pe_lst (pa_cons pe_int pa_nil)) (pe_op op_add (pe_len T.b_len (pv 1)) pe_int)))
    (pss_cons (ps_for po rfl (pi_range3 rfl T.b_range (pa_cons (pe_op op_sub (pe_len T.b_len (pv 1)) pe_int) (pa_cons (pe_un un_neg pe_int) (pa_cons (pe_un un_neg pe_int) pa_nil)))) (pg_name (i := 4) sc_counts_with.nd rfl (Or.inl rfl)) (pss_one (ps_if (pt_cmpR op_eq (pv 0) (pe_ix ix_list (pv 1) (pv 4) (fun _ _ => rfl)) (nomark _)) (pss_one (ps_asg (pe_op op_add (pe_ix ix_list (pv 2) (pe_op op_add (pv 4) pe_int) (fun _ _ => rfl)) pe_int) (pg_sub (pv 3) (pv 4) set_list))) (pss_one (ps_asg (pe_callB (call_max2 rfl) rfl T.b_max (by decide +kernel) (pa_cons (pe_ix ix_list (pv 2) (pv 4) (fun _ _ => rfl)) (pa_cons (pe_ix ix_list (pv 3) (pe_op op_add (pv 4) pe_int) (fun _ _ => rfl)) pa_nil))) (pg_sub (pv 3) (pv 4) set_list))))))
    (pss_one (ps_ret (pv 3))))), ?_⟩
  obtain ⟨x, b, wa, t, ws, rfl, h1, h2, hw, ht, q⟩ := h
  have htl : (t.map sV).length = t.length := List.length_map ..
  refine ⟨sz1, fun p0 hp0 => ?_⟩
  have h1' := same_new (o := .lst [.int 0]) hp0 b _ h1
  refine ⟨_, rfl, b, _, rfl, SqL.of h1', ?_⟩
  refine ⟨_, _, rfl, rfl, ?_⟩
  refine ⟨_, _, _, rfl, rfl, upd_same, by rw [htl]; omega, by rw [htl]; omega, by
    rw [htl]; exact sz_of (show 1 * ((t.length : Int) + 1).toNat ≤ _ by omega), fun D hD => ?_⟩
  rw [rep_one, htl, show ((t.length : Int) + 1).toNat = t.length + 1 by omega]
  have e1 := same_trans (same_new hp0) (same_new (o := .lst (List.replicate (t.length + 1) (V.int 0))) hD)
  have hDH := none_back (same_new hp0) hD
  refine ⟨_, rfl, b, _, rfl, SqL.of (e1 b _ h1), ?_⟩
  rw [htl]
  refine ⟨_, _, rfl, rfl, ?_⟩
  refine ⟨_, rfl, _, rfl, ?_⟩
  refine ⟨_, _, _, (t.length : Nat), rfl, ?_, ?_⟩
  · have := RgC.neg (i := (t.length : Int) - 1) (j := -1) (by omega) (by omega) (by omega) (by omega)
    rw [show ((t.length : Int) - 1 - -1).toNat = t.length by omega] at this
    exact this
  refine for_rangeC (lo := (t.length : Int) - 1) (c := -1) (n := t.length) (fun i σ H' => ∃ jv, σ = [some (sV x), some (.ref b), some (.ref wa), some (.ref D), jv] ∧ CInv H D ((rowAt x t ws i).map nV) H') ?_ ?_ ?_
  · refine ⟨_, rfl, ?_, e1⟩
    rw [upd_same]
    unfold rowAt
    rw [Nat.sub_zero, rowOf_end]
    show _ = some (HO.lst ((List.replicate t.length 0 ++ [0]).map nV))
    rw [List.map_append, List.map_replicate, List.replicate_succ']; rfl
  · rintro i σ H' hi ⟨jv, rfl, pv⟩
    have hb := pv.2 b _ h1
    have hwa := pv.2 wa _ h2
    obtain ⟨j, hj⟩ : ∃ j, j + (i + 1) = t.length := ⟨t.length - (i + 1), by omega⟩
    have ej : (t.length : Int) - 1 + (i : Nat) * -1 = (j : Int) := by omega
    rw [ej]
    obtain ⟨y, hy⟩ := get_of_lt (l := t) (i := j) (by omega)
    obtain ⟨w0, hw0⟩ := get_of_lt (l := ws) (i := j) (by omega)
    obtain ⟨w1, hw1⟩ := get_of_lt (l := ws) (i := j + 1) (by omega)
    have ei : t.length - i = j + 1 := by omega
    have ei' : t.length - (i + 1) = j := by omega
    obtain ⟨c1, c, hc⟩ : ∃ c1 c, rowOf x (t.drop (j + 1)) (ws.drop (j + 1)) = c1 :: c := by
      cases q : rowOf x (t.drop (j + 1)) (ws.drop (j + 1)) with
      | nil => have := rowOf_length x (t.drop (j + 1)) (ws.drop (j + 1)); rw [q] at this; cases this
      | cons c1 c => exact ⟨c1, c, rfl⟩
    have rs := rowOf_step (x := x) hy hw0 hw1 hc
    have e2 : rowAt x t ws i = List.replicate (j + 1) 0 ++ c1 :: c := by unfold rowAt; rw [ei, hc]
    have e3 : rowAt x t ws (i + 1) = List.replicate j 0 ++ stepCell x y w1 w0 c1 :: c1 :: c := by unfold rowAt; rw [ei', rs]
    have hrl : (rowAt x t ws i).length = t.length + 1 := by unfold rowAt; rw [List.length_append, List.length_replicate, rowOf_length, List.length_drop]; omega
    have st : ∀ v, (List.map nV (rowAt x t ws i)).set j (nV v) = (List.replicate j 0 ++ v :: c1 :: c).map nV := fun v => by
      rw [e2, List.replicate_succ']
      simp
    have ix : ixN (List.map nV (rowAt x t ws i)).length (j : Int) = some j := ixN_nat rfl (by rw [List.length_map]; omega)
    refine ⟨_, rfl, _, rfl, _, rfl, ?_⟩
    refine ⟨b, _, _, _, rfl, rfl, SqL.of hb, at_n (j := j) (by rw [List.getElem?_map, hy]; rfl) rfl, ?_⟩
    refine ⟨rfl, _, rfl, if_2 (fun k => ?_) fun k => ?_⟩
    · have k := str_t k
      refine ⟨_, rfl, _, rfl, ?_⟩
      refine ⟨_, _, rfl, rfl, ?_⟩
      refine ⟨wa, _, _, _, rfl, rfl, SqL.of hwa, at_n (j := j + 1) (by rw [List.getElem?_map, hw1]; rfl) rfl, ?_⟩
      refine ⟨_, _, rfl, rfl, ?_⟩
      refine ⟨_, rfl, _, rfl, ?_⟩
      refine ⟨D, _, _, j, rfl, rfl, pv.1, ix, _, rfl, ?_⟩
      have e4 := st (w1 + 1)
      rw [show nV (w1 + 1) = V.int ((w1 : Int) + 1) from rfl] at e4
      rw [e4]
      refine pv.more hDH (Same.refl _) ?_
      rw [e3, stepCell, if_pos k]
    · have k := str_f k
      refine ⟨_, rfl, _, rfl, ?_⟩
      refine ⟨wa, _, _, _, rfl, rfl, SqL.of hwa, at_n (j := j) (by rw [List.getElem?_map, hw0]; rfl) rfl, ?_⟩
      refine ⟨_, rfl, _, rfl, ?_⟩
      refine ⟨_, _, rfl, rfl, ?_⟩
      refine ⟨D, _, _, _, rfl, rfl, SqL.of pv.1, at_n (v := nV c1) (j := j + 1) (by rw [List.getElem?_map, e2, List.getElem?_append_right (by simp)]; simp) rfl, ?_⟩
      refine ⟨_, _, rfl, ?_⟩
      refine ⟨_, rfl, _, rfl, ?_⟩
      refine ⟨D, _, _, j, rfl, rfl, pv.1, ix, _, rfl, ?_⟩
      have em : (if (c1 : Int) > (w0 : Int) then (c1 : Int) else (w0 : Int)) = ((Nat.max w0 c1 : Nat) : Int) := by
        have : Nat.max w0 c1 = max w0 c1 := rfl
        rw [this]
        split <;> omega
      rw [em, st (Nat.max w0 c1)]
      refine pv.more hDH (Same.refl _) ?_
      rw [e3, stepCell, if_neg k]
  · rintro σ H' ⟨jv, rfl, pv⟩
    refine ⟨_, rfl, ?_⟩
    have e : rowAt x t ws t.length = rowOf x t ws := by unfold rowAt; rw [Nat.sub_self]; rfl
    rw [e] at pv
    exact q H' D pv.2 hDH pv.1
theorem atI_m1 {α : Type} {xs : List α} {n : Nat} {v : α} (hn : xs.length = n + 1) (h : xs[n]? = some v) : atI xs (-1) = some v := by
  obtain ⟨h1, h2⟩ := List.getElem?_eq_some_iff.mp h
  have e : xs = xs.take n ++ [v] := by
    have := take_more h
    rw [← this, List.take_of_length_le (by omega)]
  rw [e]
  exact atI_last _ _
/-- a table of counts: rows, each a list -/
def TabAt (H : Hp) (D : Addr) (tab : List (List Nat)) : Prop := ∃ rs : List Addr, H D = some (.lst (rs.map V.ref)) ∧ (∀ r ∈ rs, r ≠ D) ∧ AllAt (fun r row => H r = some (.lst (row.map nV))) rs tab
def spCommon : Sp := fun vs H Q _ => ∃ (a b : Addr) (t u : Text), vs = [.ref a, .ref b] ∧ LnAt H a t ∧ LnAt H b u ∧ t.length ≤ 1000 ∧ u.length ≤ 1000 ∧ New H Q fun H' D => TabAt H' D (tableOf t u)
abbrev N_common_counts : List Str := ["first", "second", "counts", "line"]
theorem sc_common_counts : FnScope N_common_counts ["first", "second"] (defScope (top 13)) := ⟨rfl, rfl, rfl, by decide +kernel, rfl, by decide +kernel, by decide +kernel⟩
theorem k_common_counts (T : Txt K mg A) : Ok P w K mg base 2 "common_counts" spCommon := by
  refine ok_mk T.d_common_counts sc_common_counts (fun vs H Q E ⟨_, _, _, _, e, _⟩ => by rw [e]; rfl) fun f cdv AA outer s H vs Q E hr tk po h => ⟨_, (pss_cons (ps_set (i := 2) sc_common_counts.nd rfl (Or.inl rfl) (pe_lst (pa_cons (pe_op op_rep (pe_lst (pa_cons pe_int pa_nil)) (pe_op op_add (pe_len T.b_len (pv 1)) pe_int)) pa_nil)))
    (pss_cons (ps_for po rfl (pi_reversed rfl T.b_reversed (pa_cons (pv 0) pa_nil)) (pg_name (i := 3) sc_common_counts.nd rfl (Or.inl rfl)) (pss_one (ps_expr (pe_bm PySem.F.plainAttrs_list PySem.F.slot_list_append PySem.F.type_list_append mt_append (pv 2) (pa_cons (pe_k (k_counts_with T) hr tk (pa_cons (pv 3) (pa_cons (pv 1) (pa_cons (pe_ix ix_list (pv 2) (pe_un un_neg pe_int) (fun _ _ => rfl)) pa_nil)))) pa_nil)))))
    (pss_cons (ps_expr (pe_bm0 PySem.F.plainAttrs_list PySem.F.slot_list_reverse PySem.F.type_list_reverse mt_reverse (pv 2)))
    (pss_one (ps_ret (pv 2)))))), ?_⟩
  obtain ⟨a, b, t, u, rfl, h1, h2, ht, hu, q⟩ := h
  have hul : (u.map sV).length = u.length := List.length_map ..
  have htl : (t.map sV).length = t.length := List.length_map ..
  refine ⟨sz1, fun p0 hp0 => ?_⟩
  refine ⟨_, rfl, b, _, rfl, SqL.of (same_new (o := .lst [.int 0]) hp0 b _ h2), ?_⟩
  refine ⟨_, _, rfl, rfl, ?_⟩
  refine ⟨_, _, _, rfl, rfl, upd_same, by rw [hul]; omega, by rw [hul]; omega, by
    rw [hul]; exact sz_of (show 1 * ((u.length : Int) + 1).toNat ≤ _ by omega), fun r0 hr0 => ?_⟩
  rw [rep_one, hul, show ((u.length : Int) + 1).toNat = u.length + 1 by omega]
  have e1 := same_trans (same_new hp0) (same_new (o := .lst (List.replicate (u.length + 1) (V.int 0))) hr0)
  refine ⟨sz1, fun D hD => ?_⟩
  have e2 := same_trans e1 (same_new (o := .lst [.ref r0]) hD)
  have hDH := none_back e1 hD
  have hrD : r0 ≠ D := ne_of_none upd_same hD
  refine ⟨_, rfl, a, _, rfl, SqL.of (e2 a _ h1), ?_⟩
  refine for_it walk_rev (fun i σ H' => ∃ lv, σ = [some (.ref a), some (.ref b), some (.ref D), lv] ∧ Same H H' ∧ TabAt H' D (tableOf (t.drop (t.length - i)) u).reverse) ?_ ?_ ?_ ?_
  · refine ⟨_, rfl, e2, [r0], upd_same, fun r hr => by rw [List.mem_singleton.mp hr]; exact hrD, ?_⟩
    rw [Nat.sub_zero, List.drop_length]
    refine .one ?_
    rw [upd_ne hrD, upd_same, List.map_replicate]; rfl
  · rintro i σ H' _ ⟨lv, rfl, e, _⟩
    exact SqL.of (e a _ h1)
  · rintro i x σ H' H2 hi ⟨lv, rfl, e, rs, g1, g2, g3⟩ ⟨rfl, hx⟩
    rw [htl] at hi
    rw [htl] at hx
    obtain ⟨j, hj⟩ : ∃ j, j + (i + 1) = t.length := ⟨t.length - (i + 1), by omega⟩
    rw [show t.length - 1 - i = j by omega] at hx
    obtain ⟨y, hy, rfl⟩ := map_get hx
    obtain ⟨w, tt, ew, hw⟩ := tableOf_head (t.drop (j + 1)) u
    have ei : t.length - i = j + 1 := by omega
    have ei' : t.length - (i + 1) = j := by omega
    rw [ei, ew, List.reverse_cons] at g3
    have gl := g3.len
    rw [List.length_append, List.length_singleton] at gl
    obtain ⟨rl, hrl, grl⟩ := g3.get' (i := tt.reverse.length) (m := w) (by rw [List.getElem?_append_right (Nat.le_refl _)]; simp)
    have en : tableOf (t.drop j) u = rowOf y u w :: w :: tt := by
      rw [(dropC hy).2]
      show rowOf y u ((tableOf (t.drop (j + 1)) u).headD []) :: tableOf (t.drop (j + 1)) u = _
      rw [ew]; rfl
    have htt : tt.length = i := by
      have := tableOf_length (t.drop (j + 1)) u
      rw [ew, List.length_cons, List.length_drop] at this
      omega
    refine ⟨_, rfl, .inl ⟨rfl, _, SqL.of g1⟩, ?_⟩
    refine ⟨_, rfl, _, rfl, ?_⟩
    refine ⟨_, rfl, _, rfl, ?_⟩
    refine ⟨D, _, _, .ref rl, rfl, rfl, SqL.of g1, atI_m1 (n := tt.reverse.length) (by rw [List.length_map, gl]) (by rw [List.getElem?_map, hrl]; rfl), ?_⟩
    refine ⟨y, b, rl, u, w, rfl, e b _ h2, grl, hw, hu, fun H3 R e3 hR h3 => ?_⟩
    have gd := e3 D _ g1
    refine ⟨D, _, _, rfl, rfl, gd, ?_, _, rfl, same_upd (same_trans e e3) hDH, rs ++ [R], ?_, ?_, ?_⟩
    · rw [List.length_map, gl, List.length_reverse, htt]
      exact sz_lt (by omega)
    · rw [upd_same, List.map_append]; rfl
    · intro r hr
      rcases List.mem_append.mp hr with hr | hr
      · exact g2 r hr
      · rw [List.mem_singleton.mp hr]; exact fun z => ne_of_none g1 hR z.symm
    · rw [ei', en, List.reverse_cons, List.reverse_cons]
      refine (g3.mono fun r m hr _ hm => ?_).snoc ?_
      · rw [upd_ne (g2 r hr)]; exact e3 r _ hm
      · rw [upd_ne (fun z => ne_of_none g1 hR z.symm)]; exact h3
  · rintro σ H' ⟨lv, rfl, e, rs, g1, g2, g3⟩
    rw [htl, Nat.sub_self, List.drop_zero] at g3
    refine ⟨_, rfl, .inl ⟨rfl, _, SqL.of g1⟩, ?_⟩
    refine ⟨D, _, rfl, rfl, g1, ?_⟩
    refine ⟨_, rfl, q _ D ?_ hDH ⟨rs.reverse, ?_, fun r hr => g2 r (List.mem_reverse.mp hr), ?_⟩⟩
    · exact same_upd e hDH
    · rw [upd_same, List.map_reverse]
    · have := g3.rev
      rw [List.reverse_reverse] at this
      refine this.mono fun r m hr _ hm => ?_
      rw [upd_ne (g2 r (List.mem_reverse.mp hr))]
      exact hm
theorem marks_push {H1 H' : Hp} {D t : Addr} {ms : Patch} {o : Op} {acc : List V} (e : Same H1 H') (hD : H1 D = none) (m : MarksAt H' D ms) (ha : H' D = some (.lst acc)) (ht : H' t = none) :
    Same H1 (upd (upd H' t (.tup (opV o))) D (.lst (acc ++ [.ref t]))) ∧ MarksAt (upd (upd H' t (.tup (opV o))) D (.lst (acc ++ [.ref t]))) D (ms ++ [o]) := by
  have hd : upd H' t (.tup (opV o)) D = H' D := upd_ne (ne_of_none ha ht)
  exact ⟨same_upd (same_trans e (same_new ht)) hD, (m.keep hd (KeepT.upN ht)).push upd_same (by rw [hd]; exact ha)⟩
theorem marks_comp {o0 o1 o2 o3 o4 o5 o6 : Option V} {H : Hp} {S1 D1 : Addr} {ls : Text} {Qd : Hp → Prop} (mk : Line → Op) (kd : Int) (hk : ∀ x, opV (mk x) = [.int kd, sV x]) (hl : ls.length ≤ 1000) (h : H S1 = some (.lst (ls.map sV))) (hD : H D1 = none)
    (fin : ∀ H2, Same H H2 → MarksAt H2 D1 (ls.map mk) → Qd H2) :
    ∃ W : Nat → Nat → Hp → Prop, (∃ m, W 0 m (upd H D1 (.lst []))) ∧ ∀ i m H, W i m H →
      ((Itl K S1).stop i H ∧ Qd H) ∨ ((Itl K S1).go i H ∧ ∃ Nx : Hp → Prop, (∀ H', Nx H' → ∃ m', m' < m ∧ W (i + 1) m' H') ∧ ∀ x H', (Itl K S1).yld i H x H' → gName 6 x (wipe [o0, o1, o2, o3, o4, o5, o6] [6]) H' fun σ2 H2 => wipe σ2 [6] = wipe [o0, o1, o2, o3, o4, o5, o6] [6] ∧ tYes σ2 H2 fun b H3 =>
        if b = true then (tTup (tCons (tC (.int kd)) (tCons (tVar 6) tNil))) σ2 H3 fun y H4 => ∃ acc, H4 D1 = some (.lst acc) ∧ acc.length < sizeLine ∧ Nx (upd H4 D1 (.lst (acc ++ [y]))) else Nx H3) := by
  refine lc_list (K := K) (a := S1) (xs := ls.map sV) (fun i H' => Same H H' ∧ MarksAt H' D1 ((ls.take i).map mk)) ⟨same_new hD, .nil upd_same⟩ (fun i H' _ pv => SqL.of (pv.1 S1 _ h)) (fun i x H1 hx pv => ?_) (fun H' pv => ?_)
  · obtain ⟨y, hy, rfl⟩ := map_get hx
    obtain ⟨acc, hacc⟩ := pv.2.at_
    have al := pv.2.len hacc
    rw [List.length_map, List.length_take] at al
    refine ⟨rfl, ?_⟩
    refine ⟨_, rfl, sz2, fun w hw => ?_⟩
    obtain ⟨e', hm'⟩ := marks_push (o := mk y) pv.1 hD pv.2 hacc hw
    rw [hk] at e' hm'
    refine ⟨acc, (upd_ne (ne_of_none hacc hw)).trans hacc, sz_lt (by omega), e', ?_⟩
    rw [take_more hy, List.map_append]
    exact hm'
  · rw [List.length_map, List.take_length] at pv
    exact fin H' pv.1 pv.2
theorem marks_ext {H : Hp} {D D2 : Addr} {p p2 : Patch} {xs zs : List V} (m : MarksAt H D p) (m2 : MarksAt H D2 p2) (h : H D = some (.lst xs)) (h2 : H D2 = some (.lst zs)) : MarksAt (upd H D (.lst (xs ++ zs))) D (p ++ p2) := by
  obtain ⟨rs, a1, a2⟩ := m
  obtain ⟨rs2, b1, b2⟩ := m2
  rw [a1] at h; cases h
  rw [b1] at h2; cases h2
  exact ⟨rs ++ rs2, by rw [upd_same, List.map_append], (a2.mono fun r o _ _ q => KeepT.upL a1 r _ q).app (b2.mono fun r o _ _ q => KeepT.upL a1 r _ q)⟩
def spLeast : Sp := fun vs H Q _ => ∃ (a b : Addr) (t u : Text), vs = [.ref a, .ref b] ∧ LnAt H a t ∧ LnAt H b u ∧ t.length ≤ 1000 ∧ u.length ≤ 1000 ∧ New H Q fun H' D => MarksAt H' D (Vasedc.patch t u)
abbrev N_least_patch : List Str := ["first", "second", "common", "marks", "i", "j", "line"]
theorem sc_least_patch : FnScope N_least_patch ["first", "second"] (defScope (top 12)) := ⟨rfl, rfl, rfl, by decide +kernel, rfl, by decide +kernel, by decide +kernel⟩
theorem k_least_patch (T : Txt K mg A) : Ok P w K mg base 3 "least_patch" spLeast := by
  refine ok_mk T.d_least_patch sc_least_patch (fun vs H Q E ⟨_, _, _, _, e, _⟩ => by rw [e]; rfl) fun f cdv AA outer s H vs Q E hr tk po h => ⟨_, (pss_cons (ps_set (i := 2) sc_least_patch.nd rfl (Or.inl rfl) (pe_k (k_common_counts T) hr tk (pa_cons (pv 0) (pa_cons (pv 1) pa_nil))))
    (pss_cons (ps_set (i := 3) sc_least_patch.nd rfl (Or.inl rfl) (pe_lst pa_nil))
    (pss_cons (ps_set (i := 4) sc_least_patch.nd rfl (Or.inl rfl) pe_int)
    (pss_cons (ps_set (i := 5) sc_least_patch.nd rfl (Or.inl rfl) pe_int)
    (pss_cons (ps_while po (PW.pt (pw_and (pt_cmpR op_lt (pv 4) (pe_len T.b_len (pv 0)) (nomark _)) (pw_and1 (pt_cmpR op_lt (pv 5) (pe_len T.b_len (pv 1)) (nomark _))))) (pss_one (ps_if (pt_cmpR op_eq (pe_ix ix_list (pv 0) (pv 4) (fun _ _ => rfl)) (pe_ix ix_list (pv 1) (pv 5) (fun _ _ => rfl)) (nomark _)) (pss_cons (ps_expr (pe_bm PySem.F.plainAttrs_list PySem.F.slot_list_append PySem.F.type_list_append mt_append (pv 3) (pa_cons (pe_tup (pa_cons (pe_gv T.c_KEPT) (pa_cons (pe_ix ix_list (pv 0) (pv 4) (fun _ _ => rfl)) pa_nil))) pa_nil)))
    (pss_cons (ps_aug (i := 4) sc_least_patch.nd rfl (.inl rfl) pe_int ip_add)
    (pss_one (ps_aug (i := 5) sc_least_patch.nd rfl (.inl rfl) pe_int ip_add)))) (pss_one (ps_if (pt_cmpR op_ge (pe_ix ix_list (pe_ix ix_list (pv 2) (pe_op op_add (pv 4) pe_int) (fun _ _ => rfl)) (pv 5) (fun _ _ => rfl)) (pe_ix ix_list (pe_ix ix_list (pv 2) (pv 4) (fun _ _ => rfl)) (pe_op op_add (pv 5) pe_int) (fun _ _ => rfl)) (nomark _)) (pss_cons (ps_expr (pe_bm PySem.F.plainAttrs_list PySem.F.slot_list_append PySem.F.type_list_append mt_append (pv 3) (pa_cons (pe_tup (pa_cons (pe_gv T.c_TAKEN_OUT) (pa_cons (pe_ix ix_list (pv 0) (pv 4) (fun _ _ => rfl)) pa_nil))) pa_nil)))
    (pss_one (ps_aug (i := 4) sc_least_patch.nd rfl (.inl rfl) pe_int ip_add))) (pss_cons (ps_expr (pe_bm PySem.F.plainAttrs_list PySem.F.slot_list_append PySem.F.type_list_append mt_append (pv 3) (pa_cons (pe_tup (pa_cons (pe_gv T.c_PUT_IN) (pa_cons (pe_ix ix_list (pv 1) (pv 5) (fun _ _ => rfl)) pa_nil))) pa_nil)))
    (pss_one (ps_aug (i := 5) sc_least_patch.nd rfl (.inl rfl) pe_int ip_add))))))))
    (pss_cons (ps_expr (pe_bm PySem.F.plainAttrs_list PySem.F.slot_list_extend PySem.F.type_list_extend mt_extend (pv 3) (pa_cons (pe_lc (own := [("line", 6)]) (g := gName 6) rfl sc_least_patch.nd (pi_list (pe_slice sl_list (pv 0) (po_some (pv 4)) po_none)) (blkOk_by (own := [("line", 6)]) (N := N_least_patch) (sc := defScope (top 12)) (by decide +kernel)) (fun _ _ _ _ _ => pg_name (i := 6) sc_least_patch.nd rfl (Or.inl rfl)) (fun _ _ _ _ _ => pts_nil) (fun _ _ _ _ _ => (pe_tup (pa_cons (pe_gv T.c_TAKEN_OUT) (pa_cons (pv 6) pa_nil))))) pa_nil)))
    (pss_cons (ps_expr (pe_bm PySem.F.plainAttrs_list PySem.F.slot_list_extend PySem.F.type_list_extend mt_extend (pv 3) (pa_cons (pe_lc (own := [("line", 6)]) (g := gName 6) rfl sc_least_patch.nd (pi_list (pe_slice sl_list (pv 1) (po_some (pv 5)) po_none)) (blkOk_by (own := [("line", 6)]) (N := N_least_patch) (sc := defScope (top 12)) (by decide +kernel)) (fun _ _ _ _ _ => pg_name (i := 6) sc_least_patch.nd rfl (Or.inl rfl)) (fun _ _ _ _ _ => pts_nil) (fun _ _ _ _ _ => (pe_tup (pa_cons (pe_gv T.c_PUT_IN) (pa_cons (pv 6) pa_nil))))) pa_nil)))
    (pss_one (ps_ret (pv 3)))))))))), ?_⟩
  obtain ⟨a, b, t, u, rfl, h1, h2, ht, hu, q⟩ := h
  have hul : (u.map sV).length = u.length := List.length_map ..
  have htl : (t.map sV).length = t.length := List.length_map ..
  refine ⟨_, rfl, _, rfl, ?_⟩
  refine ⟨a, b, t, u, rfl, h1, h2, ht, hu, fun H1 C e1 hC tab => ?_⟩
  refine ⟨Nat.zero_le _, fun D hD => ?_⟩
  obtain ⟨rs, g1, g2, g3⟩ := tab
  have hCr := ne_of_none g1 hD
  refine ⟨fun m σ H' => ∃ i j ms lv, σ = [some (.ref a), some (.ref b), some (.ref C), some (.ref D), some (nV i), some (nV j), lv] ∧ Same H1 H' ∧ MarksAt H' D ms ∧ PatchAt t u i j ms ∧ i ≤ t.length ∧ j ≤ u.length ∧ ms.length ≤ i + j ∧ m = (t.length - i) + (u.length - j), ⟨_, 0, 0, [], none, rfl, same_new hD, .nil upd_same, patchAt_start t u, Nat.zero_le _, Nat.zero_le _, Nat.zero_le _, rfl⟩, ?_⟩
  rintro m σ H' ⟨i, j, ms, lv, rfl, e, hm, pa, hi, hj, hml, rfl⟩
  obtain ⟨acc, hacc⟩ := hm.at_
  have hal := hm.len hacc
  have ha := e a _ (e1 a _ h1)
  have hb := e b _ (e1 b _ h2)
  have hc := e C _ g1
  refine ⟨_, rfl, ?_⟩
  refine ⟨_, rfl, a, _, rfl, SqL.of ha, ?_⟩
  rw [htl]
  refine ⟨_, _, rfl, rfl, _, rfl, if_and (fun z => ⟨_, rfl, _, rfl, b, _, rfl, SqL.of hb, _, _, rfl, rfl, _, rfl, z⟩) (fun c1 c2 => ?_) fun c => ?_⟩
  · rw [hul] at c2
    have c1 : i < t.length := by have := of_decide_eq_true c1; omega
    have c2 : j < u.length := by have := of_decide_eq_true c2; omega
    obtain ⟨x, hx⟩ := get_of_lt c1
    obtain ⟨y, hy⟩ := get_of_lt c2
    have ix : atI (t.map sV) (i : Int) = some (sV x) := at_n (by rw [List.getElem?_map, hx]; rfl) rfl
    have iy : atI (u.map sV) (j : Int) = some (sV y) := at_n (by rw [List.getElem?_map, hy]; rfl) rfl
    refine ⟨_, fun σ' H' z => z, ?_⟩
    refine ⟨_, rfl, _, rfl, ?_⟩
    refine ⟨a, _, _, _, rfl, rfl, SqL.of ha, ix, ?_⟩
    refine ⟨_, rfl, _, rfl, ?_⟩
    refine ⟨b, _, _, _, rfl, rfl, SqL.of hb, iy, ?_⟩
    refine ⟨rfl, _, rfl, if_2 (fun k => ?_) fun k => ?_⟩
    · have k := str_t k
      subst k
      refine ⟨_, rfl, .inl ⟨rfl, _, SqL.of hacc⟩, ?_⟩
      refine ⟨_, rfl, _, rfl, ?_⟩
      refine ⟨a, _, _, _, rfl, rfl, SqL.of ha, ix, ?_⟩
      refine ⟨sz2, fun w hw => ?_⟩
      obtain ⟨e', hm'⟩ := marks_push (o := .keep x) e hD hm hacc hw
      refine ⟨D, _, _, rfl, rfl, (upd_ne (ne_of_none hacc hw)).trans hacc, sz_lt (by omega), ?_⟩
      refine ⟨_, rfl, _, _, rfl, rfl, ?_⟩
      refine ⟨_, rfl, _, _, rfl, rfl, ?_⟩
      exact ⟨_, by omega, i + 1, j + 1, _, _, rfl, e', hm', patchAt_keep pa hx hy, c1, c2, by rw [List.length_append]; simp only [List.length_singleton]; omega, rfl⟩
    · have k := str_f k
      obtain ⟨w0, hw0⟩ := get_of_lt (l := tableOf t u) (i := i) (by rw [tableOf_length]; omega)
      obtain ⟨w1, hw1⟩ := get_of_lt (l := tableOf t u) (i := i + 1) (by rw [tableOf_length]; omega)
      have l0 := tableOf_row t u i w0 hw0
      have l1 := tableOf_row t u (i + 1) w1 hw1
      obtain ⟨v0, hv0⟩ := get_of_lt (l := w0) (i := j + 1) (by omega)
      obtain ⟨v1, hv1⟩ := get_of_lt (l := w1) (i := j) (by omega)
      obtain ⟨r0, hr0, gr0⟩ := g3.get' hw0
      obtain ⟨r1, hr1, gr1⟩ := g3.get' hw1
      have q0 := cell_is hw0 hv0
      have q1 := cell_is hw1 hv1
      refine ⟨_, rfl, _, rfl, ?_⟩
      refine ⟨_, _, rfl, rfl, ?_⟩
      refine ⟨C, _, _, _, rfl, rfl, SqL.of hc, at_n (j := i + 1) (by rw [List.getElem?_map, hr1]; rfl) rfl, ?_⟩
      refine ⟨_, rfl, ?_⟩
      refine ⟨r1, _, _, _, rfl, rfl, SqL.of (e r1 _ gr1), at_n (j := j) (by rw [List.getElem?_map, hv1]; rfl) rfl, ?_⟩
      refine ⟨_, rfl, _, rfl, ?_⟩
      refine ⟨C, _, _, _, rfl, rfl, SqL.of hc, at_n (j := i) (by rw [List.getElem?_map, hr0]; rfl) rfl, ?_⟩
      refine ⟨_, rfl, ?_⟩
      refine ⟨_, _, rfl, rfl, ?_⟩
      refine ⟨r0, _, _, _, rfl, rfl, SqL.of (e r0 _ gr0), at_n (j := j + 1) (by rw [List.getElem?_map, hv0]; rfl) rfl, ?_⟩
      refine ⟨_, _, rfl, rfl, _, rfl, if_2 (fun g => ?_) fun g => ?_⟩
      · have g := of_decide_eq_true g
        refine ⟨_, rfl, .inl ⟨rfl, _, SqL.of hacc⟩, ?_⟩
        refine ⟨_, rfl, _, rfl, ?_⟩
        refine ⟨a, _, _, _, rfl, rfl, SqL.of ha, ix, ?_⟩
        refine ⟨sz2, fun w hw => ?_⟩
        obtain ⟨e', hm'⟩ := marks_push (o := .drop x) e hD hm hacc hw
        refine ⟨D, _, _, rfl, rfl, (upd_ne (ne_of_none hacc hw)).trans hacc, sz_lt (by omega), ?_⟩
        refine ⟨_, rfl, _, _, rfl, rfl, ?_⟩
        exact ⟨_, by omega, i + 1, j, _, _, rfl, e', hm', patchAt_drop pa hx hy k (by omega), c1, hj, by rw [List.length_append]; simp only [List.length_singleton]; omega, rfl⟩
      · have g := of_decide_eq_false g
        refine ⟨_, rfl, .inl ⟨rfl, _, SqL.of hacc⟩, ?_⟩
        refine ⟨_, rfl, _, rfl, ?_⟩
        refine ⟨b, _, _, _, rfl, rfl, SqL.of hb, iy, ?_⟩
        refine ⟨sz2, fun w hw => ?_⟩
        obtain ⟨e', hm'⟩ := marks_push (o := .put y) e hD hm hacc hw
        refine ⟨D, _, _, rfl, rfl, (upd_ne (ne_of_none hacc hw)).trans hacc, sz_lt (by omega), ?_⟩
        refine ⟨_, rfl, _, _, rfl, rfl, ?_⟩
        exact ⟨_, by omega, i, j + 1, _, _, rfl, e', hm', patchAt_put pa hx hy k (by omega), hi, c2, by rw [List.length_append]; simp only [List.length_singleton]; omega, rfl⟩
  · have c : t.length ≤ i ∨ u.length ≤ j := by
      rw [hul] at c
      rcases c with c | c
      · have := of_decide_eq_false c; omega
      · have := of_decide_eq_false c; omega
    have pe := patchAt_end pa c
    refine ⟨_, rfl, .inl ⟨rfl, _, SqL.of hacc⟩, ?_⟩
    refine ⟨_, rfl, _, rfl, _, rfl, a, _, rfl, SqL.of ha, fun S1 hS1 => ?_⟩
    rw [cutV_from, ← List.map_drop]
    refine ⟨S1, rfl, ⟨_, SqL.of upd_same⟩, fun D1 hD1 => ?_⟩
    have em1 := same_trans (same_new (o := .lst ((t.drop i).map sV)) hS1) (Same.refl _)
    refine marks_comp .drop 1 (fun _ => rfl) (by rw [List.length_drop]; omega) upd_same hD1 fun H2 e2 m2 => ?_
    have e3 := same_trans em1 e2
    obtain ⟨zs, hzs⟩ := m2.at_
    have hzl := m2.len hzs
    rw [List.length_map, List.length_drop] at hzl
    have hm3 := hm.same e3
    refine ⟨D, D1, _, _, rfl, rfl, e3 D _ hacc, hzs, sz_of (by omega), ?_⟩
    have e4 : Same H1 (upd H2 D (.lst (acc ++ zs))) := same_upd (same_trans e e3) hD
    have hm4 := marks_ext hm3 m2 (e3 D _ hacc) hzs
    refine ⟨_, rfl, .inl ⟨rfl, _, SqL.of upd_same⟩, ?_⟩
    have hb4 := e4 b _ (e1 b _ h2)
    refine ⟨_, rfl, _, rfl, _, rfl, b, _, rfl, SqL.of hb4, fun S2 hS2 => ?_⟩
    rw [cutV_from, ← List.map_drop]
    refine ⟨S2, rfl, ⟨_, SqL.of upd_same⟩, fun D2 hD2 => ?_⟩
    refine marks_comp .put 2 (fun _ => rfl) (by rw [List.length_drop]; omega) upd_same hD2 fun H5 e5 m5 => ?_
    have e6 := same_trans (same_new hS2) e5
    obtain ⟨z5, hz5⟩ := m5.at_
    have hzl5 := m5.len hz5
    rw [List.length_map, List.length_drop] at hzl5
    have hd6 := e6 D _ upd_same
    refine ⟨D, D2, _, _, rfl, rfl, hd6, hz5, ?_, ?_⟩
    · rw [List.length_append]; exact sz_of (by omega)
    · refine ⟨_, rfl, q _ D (same_trans e1 (same_upd (same_trans e4 e6) hD)) (none_back e1 hD) ?_⟩
      have := marks_ext (hm4.same e6) m5 hd6 hz5
      rw [← pe]
      exact this
end
end Lp
set_option maxRecDepth 100000
set_option maxHeartbeats 2000000
namespace Lp
open PySem PySem.Spec PyProof.Rows L2
open VasedBase (Bytes)
open Vaseda (Line Text)
open Vasedc (Op Patch lineIn before_ turned costOf isKeep isPut isDrop rowOf tableOf cell)
section
variable {P : Program} {w : World} {K : PySem.W.Frag} {mg : Str → Option Value} {base : Heap} {A : Ad}
theorem with_rest {A O G : Prop} (h : (A → O) → G) (r : A → O) : G := h r
def kAt (p : Patch) (i : Nat) : Int := (p[i]?.map kind).getD 0
theorem kAt_is {p : Patch} {i : Nat} {o : Op} (h : p[i]? = some o) : kAt p i = kind o := by unfold kAt; rw [h]; rfl
def spBoth : Sp := fun vs H Q _ => ∃ (a b : Addr) (p r : Patch), vs = [.ref a, .ref b] ∧ MarksAt H a p ∧ MarksAt H b r ∧ made p = before_ r ∧ p.length ≤ 2000 ∧ r.length ≤ 2000 ∧ New H Q fun H' D => MarksAt H' D (Vasedc.both p r)
abbrev N_one_behind_other : List Str := ["first", "second", "marks", "i", "j"]
theorem sc_one_behind_other : FnScope N_one_behind_other ["first", "second"] (defScope (top 17)) := ⟨rfl, rfl, rfl, by decide +kernel, rfl, by decide +kernel, by decide +kernel⟩
theorem marks_put {H1 H' : Hp} {D t : Addr} {ms : Patch} {o : Op} {acc : List V} (e : Same H1 H') (hD : H1 D = none) (m : MarksAt H' D ms) (ha : H' D = some (.lst acc)) (ht : H' t = some (.tup (opV o))) :
    Same H1 (upd H' D (.lst (acc ++ [.ref t]))) ∧ MarksAt (upd H' D (.lst (acc ++ [.ref t]))) D (ms ++ [o]) := ⟨same_upd e hD, m.push ht ha⟩
theorem k_one_behind_other (T : Txt K mg A) : Ok P w K mg base 2 "one_behind_other" spBoth := by
  refine ok_mk T.d_one_behind_other sc_one_behind_other (fun vs H Q E ⟨_, _, _, _, e, _⟩ => by rw [e]; rfl) fun f cdv AA outer s H vs Q E hr tk po h => ⟨_, (pss_cons (ps_set (i := 2) sc_one_behind_other.nd rfl (Or.inl rfl) (pe_lst pa_nil))
    (pss_cons (ps_set (i := 3) sc_one_behind_other.nd rfl (Or.inl rfl) pe_int)
    (pss_cons (ps_set (i := 4) sc_one_behind_other.nd rfl (Or.inl rfl) pe_int)
    (pss_cons (ps_while po (PW.pt (pw_or (pt_cmpR op_lt (pv 3) (pe_len T.b_len (pv 0)) (nomark _)) (pw_or1 (pt_cmpR op_lt (pv 4) (pe_len T.b_len (pv 1)) (nomark _))))) (pss_one (ps_if (PW.pt (pw_and (pt_cmpR op_lt (pv 3) (pe_len T.b_len (pv 0)) (nomark _)) (pw_and1 (pt_cmpR op_eq (pe_ix ix_tup (pe_ix ix_list (pv 0) (pv 3) (fun _ _ => rfl)) pe_int (fun _ _ => rfl)) (pe_gv T.c_TAKEN_OUT) (nomark _))))) (pss_cons (ps_expr (pe_bm PySem.F.plainAttrs_list PySem.F.slot_list_append PySem.F.type_list_append mt_append (pv 2) (pa_cons (pe_ix ix_list (pv 0) (pv 3) (fun _ _ => rfl)) pa_nil)))
    (pss_one (ps_aug (i := 3) sc_one_behind_other.nd rfl (.inl rfl) pe_int ip_add))) (pss_one (ps_if (PW.pt (pw_and (pt_cmpR op_lt (pv 4) (pe_len T.b_len (pv 1)) (nomark _)) (pw_and1 (pt_cmpR op_eq (pe_ix ix_tup (pe_ix ix_list (pv 1) (pv 4) (fun _ _ => rfl)) pe_int (fun _ _ => rfl)) (pe_gv T.c_PUT_IN) (nomark _))))) (pss_cons (ps_expr (pe_bm PySem.F.plainAttrs_list PySem.F.slot_list_append PySem.F.type_list_append mt_append (pv 2) (pa_cons (pe_ix ix_list (pv 1) (pv 4) (fun _ _ => rfl)) pa_nil)))
    (pss_one (ps_aug (i := 4) sc_one_behind_other.nd rfl (.inl rfl) pe_int ip_add))) (pss_cons (ps_expr (pe_bm PySem.F.plainAttrs_list PySem.F.slot_list_extend PySem.F.type_list_extend mt_extend (pv 2) (pa_cons (pe_k (k_marks_of_both T) hr tk (pa_cons (pe_ix ix_list (pv 0) (pv 3) (fun _ _ => rfl)) (pa_cons (pe_ix ix_list (pv 1) (pv 4) (fun _ _ => rfl)) pa_nil))) pa_nil)))
    (pss_cons (ps_aug (i := 3) sc_one_behind_other.nd rfl (.inl rfl) pe_int ip_add)
    (pss_one (ps_aug (i := 4) sc_one_behind_other.nd rfl (.inl rfl) pe_int ip_add)))))))))
    (pss_one (ps_ret (pv 2))))))), ?_⟩
  obtain ⟨a, b, p, r, rfl, ⟨rs, h1, h2⟩, ⟨ss, g1, g2⟩, hmb, hp, hrl, q⟩ := h
  have l1 : (rs.map V.ref).length = p.length := by rw [List.length_map, h2.len]
  have l2 : (ss.map V.ref).length = r.length := by rw [List.length_map, g2.len]
  refine ⟨Nat.zero_le _, fun D hD => ?_⟩
  refine ⟨fun m σ H' => ∃ i j ms, σ = [some (.ref a), some (.ref b), some (.ref D), some (nV i), some (nV j)] ∧ Same H H' ∧ MarksAt H' D ms ∧ BothAt p r i j ms ∧ i ≤ p.length ∧ j ≤ r.length ∧ ms.length ≤ i + j ∧ m = (p.length - i) + (r.length - j), ⟨_, 0, 0, [], rfl, same_new hD, .nil upd_same, bothAt_start hmb, Nat.zero_le _, Nat.zero_le _, Nat.zero_le _, rfl⟩, ?_⟩
  rintro m σ H' ⟨i, j, ms, rfl, e, hm, ba, hi, hj, hml, rfl⟩
  obtain ⟨acc, hacc⟩ := hm.at_
  have hal := hm.len hacc
  have ha := e a _ h1
  have hb := e b _ g1
  refine ⟨_, rfl, _, rfl, a, _, rfl, SqL.of ha, ?_⟩
  rw [l1]
  refine ⟨_, _, rfl, rfl, _, rfl, if_or (fun z => ⟨_, rfl, _, rfl, b, _, rfl, SqL.of hb, _, _, rfl, rfl, _, rfl, z⟩) (fun c => ?_) fun c1 c2 => ?_⟩
  · rw [l2] at c
    have c : i < p.length ∨ j < r.length := by
      rcases c with c | c
      · have := of_decide_eq_true c; omega
      · have := of_decide_eq_true c; omega
    refine ⟨_, fun σ' H' z => z, ?_⟩
    refine ⟨_, rfl, _, rfl, a, _, rfl, SqL.of ha, ?_⟩
    rw [l1]
    refine with_rest (A := ∀ x, p[i]? ≠ some (.drop x)) (O := ?O1) (fun rest => ?_) fun k1 => ?_
    rotate_left
    · by_cases ci : i < p.length
      · obtain ⟨o, ho⟩ := get_of_lt ci
        obtain ⟨ra, hra, gra⟩ := h2.get' ho
        have ix : atI (rs.map V.ref) (i : Int) = some (V.ref ra) := at_n (by rw [List.getElem?_map, hra]; rfl) rfl
        refine ⟨_, _, rfl, rfl, _, rfl, if_and (fun z => ⟨_, rfl, _, rfl, a, _, _, _, rfl, rfl, SqL.of ha, ix, ra, _, _, _, rfl, rfl, SqT.of (e ra _ gra), rfl, rfl, _, rfl, z⟩) (fun c1 c2 => ?_) fun k1 => ?_⟩
        · obtain ⟨x, rfl⟩ := kind1.mp (int_t c2)
          refine ⟨_, rfl, .inl ⟨rfl, _, SqL.of hacc⟩, ?_⟩
          refine ⟨_, rfl, _, rfl, ?_⟩
          refine ⟨a, _, _, _, rfl, rfl, SqL.of ha, ix, ?_⟩
          refine ⟨D, _, _, rfl, rfl, hacc, sz_lt (by omega), ?_⟩
          obtain ⟨e', hm'⟩ := marks_put e hD hm hacc (e ra _ gra)
          refine ⟨_, rfl, _, _, rfl, rfl, ?_⟩
          exact ⟨_, by omega, i + 1, j, _, rfl, e', hm', bothAt_drop ba ho, ci, hj, by rw [List.length_append]; simp only [List.length_singleton]; omega, rfl⟩
        · refine rest fun x hx => ?_
          rw [ho] at hx
          cases hx
          rcases k1 with k1 | k1
          · have := of_decide_eq_false k1; omega
          · exact int_f k1 rfl
      · refine ⟨_, _, rfl, rfl, _, rfl, if_f (decide_eq_false (by omega)) (rest fun x hx => ci (get_lt hx))⟩
    · refine ⟨_, rfl, _, rfl, b, _, rfl, SqL.of hb, ?_⟩
      rw [l2]
      refine with_rest (A := ∀ x, r[j]? ≠ some (.put x)) (O := ?O2) (fun rest => ?_) fun k2 => ?_
      rotate_left
      · by_cases ci : j < r.length
        · obtain ⟨o, ho⟩ := get_of_lt ci
          obtain ⟨ra, hra, gra⟩ := g2.get' ho
          have ix : atI (ss.map V.ref) (j : Int) = some (V.ref ra) := at_n (by rw [List.getElem?_map, hra]; rfl) rfl
          refine ⟨_, _, rfl, rfl, _, rfl, if_and (fun z => ⟨_, rfl, _, rfl, b, _, _, _, rfl, rfl, SqL.of hb, ix, ra, _, _, _, rfl, rfl, SqT.of (e ra _ gra), rfl, rfl, _, rfl, z⟩) (fun c1 c2 => ?_) fun k1 => ?_⟩
          · obtain ⟨x, rfl⟩ := kind2.mp (int_t c2)
            refine ⟨_, rfl, .inl ⟨rfl, _, SqL.of hacc⟩, ?_⟩
            refine ⟨_, rfl, _, rfl, ?_⟩
            refine ⟨b, _, _, _, rfl, rfl, SqL.of hb, ix, ?_⟩
            refine ⟨D, _, _, rfl, rfl, hacc, sz_lt (by omega), ?_⟩
            obtain ⟨e', hm'⟩ := marks_put e hD hm hacc (e ra _ gra)
            refine ⟨_, rfl, _, _, rfl, rfl, ?_⟩
            exact ⟨_, by omega, i, j + 1, _, rfl, e', hm', bothAt_put ba k1 ho, hi, ci, by rw [List.length_append]; simp only [List.length_singleton]; omega, rfl⟩
          · refine rest fun x hx => ?_
            rw [ho] at hx
            cases hx
            rcases k1 with k1 | k1
            · have := of_decide_eq_false k1; omega
            · exact int_f k1 rfl
        · refine ⟨_, _, rfl, rfl, _, rfl, if_f (decide_eq_false (by omega)) (rest fun x hx => ci (get_lt hx))⟩
      · skip
        obtain ⟨o, w, ho, hw, ba'⟩ := bothAt_two ba k1 k2 c
        obtain ⟨ra, hra, gra⟩ := h2.get' ho
        obtain ⟨rb, hrb, grb⟩ := g2.get' hw
        refine ⟨_, rfl, .inl ⟨rfl, _, SqL.of hacc⟩, ?_⟩
        refine ⟨_, rfl, _, rfl, ?_⟩
        refine ⟨a, _, _, _, rfl, rfl, SqL.of ha, at_n (v := V.ref ra) (by rw [List.getElem?_map, hra]; rfl) rfl, ?_⟩
        refine ⟨_, rfl, _, rfl, ?_⟩
        refine ⟨b, _, _, _, rfl, rfl, SqL.of hb, at_n (v := V.ref rb) (by rw [List.getElem?_map, hrb]; rfl) rfl, ?_⟩
        refine ⟨ra, rb, o, w, rfl, e ra _ gra, e rb _ grb, fun H2 D2 e2 hD2 ⟨xs, x1, x2⟩ => ?_⟩
        have xl := bothOf_len o w
        have m2 : MarksAt H2 D2 (bothOf o w) := ⟨xs, x1, x2⟩
        have hl2 := m2.len x1
        refine ⟨D, D2, _, _, rfl, rfl, e2 D _ hacc, x1, sz_of (by omega), ?_⟩
        refine ⟨_, rfl, _, _, rfl, rfl, ?_⟩
        refine ⟨_, rfl, _, _, rfl, rfl, ?_⟩
        have ci := get_lt ho
        have cj := get_lt hw
        exact ⟨_, by omega, i + 1, j + 1, _, rfl, same_upd (same_trans e e2) hD, marks_ext (hm.same e2) m2 (e2 D _ hacc) x1, ba', ci, cj, by rw [List.length_append]; omega, rfl⟩
  · have c1 := of_decide_eq_false c1
    have c2 := of_decide_eq_false c2
    rw [l2] at c2
    have := bothAt_end ba (by omega) (by omega)
    rw [this] at hm
    exact ⟨_, rfl, q H' D e hD hm⟩
end
end Lp
set_option maxRecDepth 100000
set_option maxHeartbeats 2000000
namespace Lp
open PySem PySem.Spec PyProof.Rows L2
open VasedBase (Bytes)
open Vaseda (Line Text)
section
variable {P : Program} {w : World} {K : PySem.W.Frag} {mg : Str → Option Value} {base : Heap} {A : Ad}
/-! ### errors -/
/-- what an __init__ leaves: the fields of the error, in its own dict -/
abbrev Made (Q : VK) (a C : Addr) (H : Hp) (fs : List (Str × V)) : Prop := ∀ H' dx, Same H (upd H' a (exo a C none)) → H' a = some (exo a C (some dx)) → H' dx = some (exd dx fs) → H dx = none → Q .non H'
def spIniN (K : PySem.W.Frag) : Sp := fun vs H Q _ => ∃ (a C : Addr) (n : Int), vs = [.ref a, .int n] ∧ H a = some (exo a C none) ∧ (∃ bm, ExC K C bm) ∧ PySem.W.findIn K (.ref C) "number" = some none ∧ Made Q a C H [("number", .int n)]
def spIni (K : PySem.W.Frag) (n : Int) : Sp := fun vs H Q _ => ∃ (a C : Addr), vs = [.ref a] ∧ H a = some (exo a C none) ∧ (∃ bm, ExC K C bm) ∧ PySem.W.findIn K (.ref C) "number" = some none ∧ Made Q a C H [("number", .int n)]
def spIniF (K : PySem.W.Frag) : Sp := fun vs H Q _ => ∃ (a C : Addr) (c p : Int), vs = [.ref a, .int c, .int p] ∧ H a = some (exo a C none) ∧ (∃ bm, ExC K C bm) ∧ PySem.W.findIn K (.ref C) "code" = some none ∧ PySem.W.findIn K (.ref C) "place" = some none ∧ Made Q a C H [("place", .int p), ("code", .int c)]
abbrev N_Refusal___init__ : List Str := ["self", "number"]
theorem sc_Refusal___init__ : FnScope N_Refusal___init__ ["self", "number"] (defScope (inClass (top 31) 0)) := ⟨rfl, rfl, rfl, by decide +kernel, rfl, by decide +kernel, by decide +kernel⟩
abbrev N_ChangeNotPut___init__ : List Str := ["self", "number"]
theorem sc_ChangeNotPut___init__ : FnScope N_ChangeNotPut___init__ ["self", "number"] (defScope (inClass (top 30) 0)) := ⟨rfl, rfl, rfl, by decide +kernel, rfl, by decide +kernel, by decide +kernel⟩
abbrev N_Fault___init__ : List Str := ["self", "code", "place"]
theorem sc_Fault___init__ : FnScope N_Fault___init__ ["self", "code", "place"] (defScope (inClass (top 29) 0)) := ⟨rfl, rfl, rfl, by decide +kernel, rfl, by decide +kernel, by decide +kernel⟩
theorem made1 {Q : VK} {a C dx : Addr} {H : Hp} {f : Str} {y : V} (ha : H a = some (exo a C none)) (hd : H dx = none) (ne : dx ≠ a) (m : Made Q a C H [(f, y)]) : Q .non (upd (upd H dx (exd dx [(f, y)])) a (exo a C (some dx))) := by
  refine m _ dx (fun b u e => ?_) upd_same ?_ hd
  · by_cases hb : b = a
    · rw [hb, upd_same, ← ha, ← hb]; exact e
    · rw [upd_ne hb, upd_ne hb, upd_ne (ne_of_none e hd)]; exact e
  · rw [upd_ne ne, upd_same]
theorem f_ini {f : Addr} {fd : FuncData} (F : Fun K "__init__" "Refusal.__init__" (inClass (top 31) 0) f fd) : FnOk P w K mg base (L2.CX P w) 1 f fd ["self", "number"] (spIniN K) := by
  refine fn_mk F sc_Refusal___init__ (fun vs H Q E ⟨_, _, _, e, _⟩ => by rw [e]; rfl) fun cdv AA outer s H vs Q E hr tk po h => ⟨_, (pss_one (ps_exS (pv 0) (pv 1))), ?_⟩
  obtain ⟨a, C, n, rfl, ha, T, no, m⟩ := h
  exact ⟨_, rfl, _, rfl, a, C, rfl, T, no, .inl ⟨ha, fun dx hd ne => made1 ha hd ne m⟩⟩
theorem rk_Refusal (T : Txt K mg A) : ClsFn P w K mg base 1 "Refusal" "__init__" (spIniN K) := by
  obtain ⟨f, fd, mc, F, rd, at_, b⟩ := T.r_Refusal.ex
  exact ⟨A.re, f, fd, _, mc, f_ini F, T.r_Refusal.gC, rd, at_, F.kp, b⟩
theorem xk_ChangeNotPut (T : Txt K mg A) : ExI P w K mg base 1 "ChangeNotPut" A.np (spIniN K) := by
  obtain ⟨bm, E⟩ := T.x_ChangeNotPut.bm
  obtain ⟨f, fd, F, h1, h2, b⟩ := T.x_ChangeNotPut.ini
  refine ⟨bm, f, fd, _, E, h1, h2, fn_mk F sc_ChangeNotPut___init__ (fun vs H Q E ⟨_, _, _, e, _⟩ => by rw [e]; rfl) fun cdv AA outer s H vs Q E hr tk po h => ⟨_, (pss_one (ps_exS (pv 0) (pv 1))), ?_⟩, b, T.x_ChangeNotPut.gC⟩
  obtain ⟨a, C, n, rfl, ha, T, no, m⟩ := h
  exact ⟨_, rfl, _, rfl, a, C, rfl, T, no, .inl ⟨ha, fun dx hd ne => made1 ha hd ne m⟩⟩
theorem xk_Fault (T : Txt K mg A) : ExI P w K mg base 1 "Fault" A.fa (spIniF K) := by
  obtain ⟨bm, E⟩ := T.x_Fault.bm
  obtain ⟨f, fd, F, h1, h2, b⟩ := T.x_Fault.ini
  refine ⟨bm, f, fd, _, E, h1, h2, fn_mk F sc_Fault___init__ (fun vs H Q E ⟨_, _, _, _, e, _⟩ => by rw [e]; rfl) fun cdv AA outer s H vs Q E hr tk po h => ⟨_, (pss_cons (ps_exS (pv 0) (pv 1))
    (pss_one (ps_exS (pv 0) (pv 2)))), ?_⟩, b, T.x_Fault.gC⟩
  obtain ⟨a, C, c, p, rfl, ha, T, no1, no2, m⟩ := h
  refine ⟨_, rfl, _, rfl, a, C, rfl, T, no1, .inl ⟨ha, fun dx hd ne => ?_⟩⟩
  refine ⟨_, rfl, _, rfl, a, C, rfl, T, no2, .inr ⟨dx, _, upd_same, (upd_ne ne).trans upd_same, by show 1 ≤ 900; decide, ?_⟩⟩
  refine m _ dx (fun b u e => ?_) ((upd_ne ne.symm).trans upd_same) upd_same hd
  by_cases hb : b = a
  · rw [hb, upd_same, ← ha, ← hb]; exact e
  · rw [upd_ne hb, upd_ne (ne_of_none e hd), upd_ne hb, upd_ne (ne_of_none e hd)]; exact e
abbrev N_NoScriptHeld___init__ : List Str := ["self"]
theorem sc_NoScriptHeld___init__ : FnScope N_NoScriptHeld___init__ ["self"] (defScope (inClass (top 32) 0)) := ⟨rfl, rfl, rfl, by decide +kernel, rfl, by decide +kernel, by decide +kernel⟩
abbrev N_NotAText___init__ : List Str := ["self"]
theorem sc_NotAText___init__ : FnScope N_NotAText___init__ ["self"] (defScope (inClass (top 33) 0)) := ⟨rfl, rfl, rfl, by decide +kernel, rfl, by decide +kernel, by decide +kernel⟩
abbrev N_NoScriptForPatch___init__ : List Str := ["self"]
theorem sc_NoScriptForPatch___init__ : FnScope N_NoScriptForPatch___init__ ["self"] (defScope (inClass (top 34) 0)) := ⟨rfl, rfl, rfl, by decide +kernel, rfl, by decide +kernel, by decide +kernel⟩
abbrev N_TooMuch___init__ : List Str := ["self"]
theorem sc_TooMuch___init__ : FnScope N_TooMuch___init__ ["self"] (defScope (inClass (top 35) 0)) := ⟨rfl, rfl, rfl, by decide +kernel, rfl, by decide +kernel, by decide +kernel⟩
theorem xk_NoScriptHeld (T : Txt K mg A) : ExI P w K mg base 2 "NoScriptHeld" A.ns (spIni K (-1)) := by
  obtain ⟨bm, E⟩ := T.x_NoScriptHeld.bm
  obtain ⟨f, fd, F, h1, h2, b⟩ := T.x_NoScriptHeld.ini
  refine ⟨bm, f, fd, _, E, h1, h2, fn_mk F sc_NoScriptHeld___init__ (fun vs H Q E ⟨_, _, e, _⟩ => by rw [e]; rfl) fun cdv AA outer s H vs Q E hr tk po h => ⟨_, (pss_one (ps_expr (pe_clsfn (rk_Refusal T) hr tk (pa_cons (pv 0) (pa_cons (pe_un un_neg pe_int) pa_nil))))), ?_⟩, b, T.x_NoScriptHeld.gC⟩
  obtain ⟨a, C, rfl, ha, T, no, m⟩ := h
  exact ⟨_, rfl, _, rfl, a, C, -1, rfl, ha, T, no, m⟩
theorem xk_NotAText (T : Txt K mg A) : ExI P w K mg base 2 "NotAText" A.nt (spIni K (-4)) := by
  obtain ⟨bm, E⟩ := T.x_NotAText.bm
  obtain ⟨f, fd, F, h1, h2, b⟩ := T.x_NotAText.ini
  refine ⟨bm, f, fd, _, E, h1, h2, fn_mk F sc_NotAText___init__ (fun vs H Q E ⟨_, _, e, _⟩ => by rw [e]; rfl) fun cdv AA outer s H vs Q E hr tk po h => ⟨_, (pss_one (ps_expr (pe_clsfn (rk_Refusal T) hr tk (pa_cons (pv 0) (pa_cons (pe_un un_neg pe_int) pa_nil))))), ?_⟩, b, T.x_NotAText.gC⟩
  obtain ⟨a, C, rfl, ha, T, no, m⟩ := h
  exact ⟨_, rfl, _, rfl, a, C, -4, rfl, ha, T, no, m⟩
theorem xk_NoScriptForPatch (T : Txt K mg A) : ExI P w K mg base 2 "NoScriptForPatch" A.nn (spIni K (-6)) := by
  obtain ⟨bm, E⟩ := T.x_NoScriptForPatch.bm
  obtain ⟨f, fd, F, h1, h2, b⟩ := T.x_NoScriptForPatch.ini
  refine ⟨bm, f, fd, _, E, h1, h2, fn_mk F sc_NoScriptForPatch___init__ (fun vs H Q E ⟨_, _, e, _⟩ => by rw [e]; rfl) fun cdv AA outer s H vs Q E hr tk po h => ⟨_, (pss_one (ps_expr (pe_clsfn (rk_Refusal T) hr tk (pa_cons (pv 0) (pa_cons (pe_un un_neg pe_int) pa_nil))))), ?_⟩, b, T.x_NoScriptForPatch.gC⟩
  obtain ⟨a, C, rfl, ha, T, no, m⟩ := h
  exact ⟨_, rfl, _, rfl, a, C, -6, rfl, ha, T, no, m⟩
theorem xk_TooMuch (T : Txt K mg A) : ExI P w K mg base 2 "TooMuch" A.tm (spIni K (-7)) := by
  obtain ⟨bm, E⟩ := T.x_TooMuch.bm
  obtain ⟨f, fd, F, h1, h2, b⟩ := T.x_TooMuch.ini
  refine ⟨bm, f, fd, _, E, h1, h2, fn_mk F sc_TooMuch___init__ (fun vs H Q E ⟨_, _, e, _⟩ => by rw [e]; rfl) fun cdv AA outer s H vs Q E hr tk po h => ⟨_, (pss_one (ps_expr (pe_clsfn (rk_Refusal T) hr tk (pa_cons (pv 0) (pa_cons (pe_un un_neg pe_int) pa_nil))))), ?_⟩, b, T.x_TooMuch.gC⟩
  obtain ⟨a, C, rfl, ha, T, no, m⟩ := h
  exact ⟨_, rfl, _, rfl, a, C, -7, rfl, ha, T, no, m⟩
/-- an error that leaves: its class, its fields -/
def Out (E : XK) (H : Hp) (C : Addr) (fs : List (Str × V)) : Prop := ∀ H' d, Same H H' → H' d = some (.xd fs) → E (.ref C) (some d) H'
theorem made_out {E : XK} {H : Hp} {a C : Addr} {fs : List (Str × V)} (ha : H a = none) (o : Out E H C fs) : Made (fun v H2 => v = .non ∧ ∃ (d : Addr) (fs : List (Str × V)), H2 a = some (exo a C (some d)) ∧ H2 d = some (exd d fs) ∧ H d = none ∧ E (.ref C) (some d) (upd (del H2 a) d (.xd fs))) a C (upd H a (exo a C none)) fs := by
  intro H' dx sm h1 h2 h3
  have nd : dx ≠ a := fun z => by rw [z, upd_same] at h3; cases h3
  rw [upd_ne nd] at h3
  refine ⟨rfl, dx, fs, h1, h2, h3, o _ dx (fun b u e => ?_) upd_same⟩
  have nb := ne_of_none e ha
  rw [upd_ne (ne_of_none e h3), del_ne nb]
  have := sm b u (by rw [upd_ne nb]; exact e)
  rw [upd_ne nb] at this
  exact this
theorem raise0 {σ : L2.St} {H : Hp} {E : XK} {x : Str} {C : Addr} {n : Int} {qual : Str} {st : Stmt} {ps : List Str} (T : ExT K mg x C qual st ps ["number"]) (o : Out E H C [("number", .int n)]) : tExM C (spIni K n) tNil σ H E :=
  ⟨Nat.zero_le _, fun a ha => ⟨a, C, rfl, upd_same, T.bm, T.no _ (List.mem_cons_self ..), made_out ha o⟩⟩
theorem Out.mono {E : XK} {H H1 : Hp} {C : Addr} {fs : List (Str × V)} (o : Out E H C fs) (e : Same H H1) : Out E H1 C fs := fun H' d s h => o H' d (same_trans e s) h
/-! ### texts -/
theorem isLetI_is (b : UInt8) : isLetI (b.toNat : Int) = VasedBase.isLetter b := by
  unfold isLetI VasedBase.isLetter
  rw [← Bool.decide_and]
  apply decide_eq_decide.mpr
  omega
theorem u8_10 {b : UInt8} : (b.toNat : Int) = 10 ↔ b = 10 := by
  constructor
  · intro h
    apply UInt8.toNat.inj
    show b.toNat = 10
    omega
  · rintro rfl; rfl
theorem lg_cons (ls : Text) (l : Line) (b : UInt8) (r : Bytes) : linesGo ls l (b :: r) = if b = 10 then (if 24 < (ls ++ [l]).length then none else linesGo (ls ++ [l]) [] r) else if VasedBase.isLetter b = true then (if 16 < (l ++ [b]).length ∨ 24 < ls.length then none else linesGo ls (l ++ [b]) r) else none := by
  rw [linesGo]
theorem lg_nil (ls : Text) (l : Line) : linesGo ls l [] = if l = [] then some ls else none := by rw [linesGo]
theorem toS_e : Str.ofString "" = toS [] := rfl
def spLinesOf (A : Ad) : Sp := fun vs H Q E => ∃ (a : Addr) (b : Bytes), vs = [.ref a] ∧ H a = some (.lst (b.map iB)) ∧ (∀ t, Vaseda.readText b = some t → New H Q fun H' D => LnAt H' D t) ∧ (Vaseda.readText b = none → Out E H A.nt [("number", .int (-4))])
abbrev N_lines_of : List Str := ["told", "lines", "line", "byte"]
theorem sc_lines_of : FnScope N_lines_of ["told"] (defScope (top 88)) := ⟨rfl, rfl, rfl, by decide +kernel, rfl, by decide +kernel, by decide +kernel⟩
theorem k_lines_of (T : Txt K mg A) : Ok P w K mg base 4 "lines_of" (spLinesOf A) := by
  refine ok_mk T.d_lines_of sc_lines_of (fun vs H Q E ⟨_, _, e, _⟩ => by rw [e]; rfl) fun f cdv AA outer s H vs Q E hr tk po h => ⟨_, (pss_cons (ps_set (i := 1) sc_lines_of.nd rfl (Or.inl rfl) (pe_lst pa_nil))
    (pss_cons (ps_set (i := 2) sc_lines_of.nd rfl (Or.inl rfl) pe_str)
    (pss_cons (ps_for po rfl (pi_list (pv 0)) (pg_name (i := 3) sc_lines_of.nd rfl (Or.inl rfl)) (pss_cons (ps_if (pt_cmpR op_eq (pv 3) (pe_gv T.c_LINE_END) (nomark _)) (pss_cons (ps_expr (pe_bm PySem.F.plainAttrs_list PySem.F.slot_list_append PySem.F.type_list_append mt_append (pv 1) (pa_cons (pv 2) pa_nil)))
    (pss_one (ps_set (i := 2) sc_lines_of.nd rfl (Or.inl rfl) pe_str))) (pss_one (ps_if (pt_val (pe_k (k_is_letter T) hr tk (pa_cons (pv 3) pa_nil))) (pss_one (ps_aug (i := 2) sc_lines_of.nd rfl (.inl rfl) (pe_k (k_letter_of T) hr tk (pa_cons (pv 3) pa_nil)) iop_add_str)) (pss_one (ps_raise rfl tk (pmk_ex0 (xk_NotAText T) hr))))))
    (pss_one (ps_if (PW.pt (pw_or (pt_cmpR op_gt (pe_lenT T.b_len (pv 2)) (pe_gv T.c_MOST_LETTERS) (nomark _)) (pw_or1 (pt_cmpR op_gt (pe_len T.b_len (pv 1)) (pe_gv T.c_MOST_LINES) (nomark _))))) (pss_one (ps_raise rfl tk (pmk_ex0 (xk_NotAText T) hr))) pss_nil))))
    (pss_cons (ps_if (pt_cmpR op_ne (pv 2) pe_str (nomark _)) (pss_one (ps_raise rfl tk (pmk_ex0 (xk_NotAText T) hr))) pss_nil)
    (pss_one (ps_ret (pv 1))))))), ?_⟩
  obtain ⟨a, b, rfl, ha, q, o⟩ := h
  rw [← linesGo_is] at q o
  refine ⟨Nat.zero_le _, fun L hL => ?_⟩
  refine ⟨_, rfl, a, rfl, ⟨_, SqL.of (same_new hL a _ ha)⟩, ?_⟩
  refine for_list (K := K) (a := a) (xs := b.map iB) (fun i σ H' => ∃ ls l bv, σ = [some (.ref a), some (.ref L), some (sV l), bv] ∧ CInv H L (ls.map sV) H' ∧ linesGo [] [] b = linesGo ls l (b.drop i) ∧ ls.length ≤ 24 ∧ l.length ≤ 16) ?_ ?_ ?_ ?_
  · exact ⟨[], [], none, rfl, .zero hL, rfl, Nat.zero_le _, Nat.zero_le _⟩
  · rintro i σ H' _ ⟨ls, l, bv, rfl, pv, _⟩
    exact SqL.of (pv.2 a _ ha)
  · rintro i x σ H' hx ⟨ls, l, bv, rfl, pv, e, h1, h2⟩
    obtain ⟨c, hc, rfl⟩ := map_get hx
    rw [(dropC hc).2] at e
    have bad : ∀ {H1}, Same H H1 → linesGo ls l (c :: b.drop (i + 1)) = none → Out E H1 A.nt [("number", .int (-4))] := fun m z => (o (e.trans z)).mono m
    rw [lg_cons] at e bad
    refine ⟨_, rfl, rfl, _, rfl, if_2 (fun k => ?_) fun k => ?_⟩
    · have k := u8_10.mp (int_t k)
      rw [if_pos k] at e bad
      refine ⟨_, rfl, .inl ⟨rfl, _, SqL.of pv.1⟩, ?_⟩
      refine ⟨_, rfl, L, _, _, rfl, rfl, pv.1, sz_lt (by rw [List.length_map]; omega), ?_⟩
      have pv' : CInv H L ((ls ++ [l]).map sV) (upd H' L (.lst (ls.map sV ++ [sV l]))) := pv.more hL (Same.refl _) (by rw [List.map_append]; rfl)
      refine ⟨_, rfl, Str.empty, rfl, Nat.zero_le _, ?_⟩
      refine ⟨_, _, rfl, rfl, _, rfl, if_or (fun z => ⟨_, rfl, L, _, rfl, SqL.of pv'.1, _, _, rfl, rfl, _, rfl, z⟩) (fun d => ?_) fun d1 d2 => ?_⟩
      · have d : 24 < (ls ++ [l]).length := by
          rcases d with d | d
          · have := of_decide_eq_true d; exact absurd this (by decide)
          · have := of_decide_eq_true d
            rw [List.length_map] at this
            omega
        exact raise0 T.x_NotAText (bad pv'.2 (if_pos d))
      · have d : ¬ 24 < (ls ++ [l]).length := by
          have := of_decide_eq_false d2
          rw [List.length_map] at this
          omega
        rw [if_neg d] at e
        exact ⟨_, [], _, rfl, pv', e, by omega, Nat.zero_le _⟩
    · have k : ¬ c = 10 := fun z => int_f k (u8_10.mpr z)
      rw [if_neg k] at e bad
      refine ⟨_, rfl, ?_⟩
      refine ⟨_, rfl, ?_⟩
      rw [isLetI_is]
      refine ⟨_, rfl, if_2 (fun g => ?_) fun g => ?_⟩
      · rw [if_pos g] at e bad
        refine ⟨_, rfl, _, rfl, c, rfl, g, ?_⟩
        have ll := toS_len l
        refine ⟨_, _, rfl, rfl, ?_, ?_⟩
        · rw [ll, toS_len]; exact sz_of (show l.length + 1 ≤ _ by omega)
        · rw [toS_app]
          refine ⟨_, rfl, _, rfl, by rw [toS_len, List.length_append]; exact sz_of (show l.length + 1 ≤ _ by omega), ?_⟩
          refine ⟨_, _, rfl, rfl, _, rfl, if_or (fun z => ⟨_, rfl, L, _, rfl, SqL.of pv.1, _, _, rfl, rfl, _, rfl, z⟩) (fun d => ?_) fun d1 d2 => ?_⟩
          · have d : 16 < (l ++ [c]).length ∨ 24 < ls.length := by
              rcases d with d | d
              · have := of_decide_eq_true d
                rw [toS_len] at this
                exact .inl (by omega)
              · have := of_decide_eq_true d
                rw [List.length_map] at this
                exact .inr (by omega)
            exact raise0 T.x_NotAText (bad pv.2 (if_pos d))
          · have d3 := of_decide_eq_false d1
            have d4 := of_decide_eq_false d2
            rw [toS_len] at d3
            rw [List.length_map] at d4
            rw [if_neg (by omega)] at e
            exact ⟨_, _, _, rfl, pv, e, h1, by omega⟩
      · exact raise0 T.x_NotAText (bad pv.2 (if_neg (by rw [g]; exact Bool.false_ne_true)))
  · rintro σ H' ⟨ls, l, bv, rfl, pv, e, h1, h2⟩
    rw [List.length_map, List.drop_length] at e
    rw [lg_nil] at e
    refine ⟨_, rfl, rfl, _, rfl, if_2 (fun k => ?_) fun k => ?_⟩
    · have k : ¬ l = [] := fun z => by
        rw [z] at k
        exact absurd k (by decide)
      rw [if_neg k] at e
      exact raise0 T.x_NotAText ((o e).mono pv.2)
    · have k : l = [] := by
        exact toS_inj ((show toS l = Str.ofString "" by simpa using k).trans toS_e)
      rw [if_pos k] at e
      exact ⟨_, rfl, q ls e H' L pv.2 hL pv.1⟩
end
end Lp
set_option maxRecDepth 100000
set_option maxHeartbeats 2000000
namespace Lp
open PySem PySem.Spec PyProof.Rows L2
open VasedBase (Bytes)
open Vaseda (Line Text Cmd)
open Vasedc (Op Patch lineIn tellable scriptOf)
section
variable {P : Program} {w : World} {K : PySem.W.Frag} {mg : Str → Option Value} {base : Heap} {A : Ad}
theorem joinL_nil : ∀ ys : List (List Nat), TL.joinL [] ys = ys.flatten
  | [] => rfl
  | [p] => by simp [TL.joinL]
  | p :: q :: r => by
    show p ++ ([] ++ TL.joinL [] (q :: r)) = _
    rw [joinL_nil (q :: r)]; rfl
theorem join_toS (bs : List Bytes) : Txt.join (Str.ofString "") (bs.map toS) = toS bs.flatten := by
  have h := SX.join_S [] (bs.map fun b => b.map (·.toNat))
  rw [joinL_nil, List.map_map] at h
  have e : SX.S ((bs.map fun b => b.map (·.toNat)).flatten) = toS bs.flatten := by
    show Str.mk _ = Str.mk _
    rw [List.map_flatten]
  exact h.trans e
theorem sum_toS (bs : List Bytes) : ((bs.map toS).map (·.length)).sum = bs.flatten.length := by
  rw [List.length_flatten, List.map_map]
  congr 1
  apply List.map_congr_left
  intro b _
  exact toS_len b
theorem nl_toS : Str.ofString "\n" = toS [10] := by decide +kernel
def spToldText : Sp := fun vs H Q _ => ∃ (a : Addr) (t : Text), vs = [.ref a] ∧ LnAt H a t ∧ t.length ≤ 1000 ∧ (∀ x ∈ t, x.length ≤ 10000) ∧ NewL H Q (((t.length : Int) :: Vasedc.rowText t).map V.int)
abbrev N_told_text : List Str := ["lines", "told", "line"]
theorem sc_told_text : FnScope N_told_text ["lines"] (defScope (top 89)) := ⟨rfl, rfl, rfl, by decide +kernel, rfl, by decide +kernel, by decide +kernel⟩
theorem flat_le : ∀ (bs : List Bytes) (m : Nat), (∀ x ∈ bs, x.length ≤ m) → bs.flatten.length ≤ bs.length * m
  | [], _, _ => Nat.zero_le _
  | b :: bs, m, h => by
    rw [List.flatten_cons, List.length_append, List.length_cons, Nat.add_mul, Nat.one_mul]
    have := flat_le bs m fun x hx => h x (List.mem_cons_of_mem _ hx)
    have := h b (List.mem_cons_self ..)
    omega
theorem k_told_text (T : Txt K mg A) : Ok P w K mg base 2 "told_text" spToldText := by
  refine ok_mk T.d_told_text sc_told_text (fun vs H Q E ⟨_, _, e, _⟩ => by rw [e]; rfl) fun f cdv AA outer s H vs Q E hr tk po h => ⟨_, (pss_cons (ps_set (i := 1) sc_told_text.nd rfl (Or.inl rfl) (pe_k (k_bytes_of T) hr tk (pa_cons (pe_join pe_str (pe_lc (own := [("line", 2)]) (g := gName 2) rfl sc_told_text.nd (pi_list (pv 0)) (blkOk_by (own := [("line", 2)]) (N := N_told_text) (sc := defScope (top 89)) (by decide +kernel)) (fun _ _ _ _ _ => pg_name (i := 2) sc_told_text.nd rfl (Or.inl rfl)) (fun _ _ _ _ _ => pts_nil) (fun _ _ _ _ _ => (pe_op op_add_str (pv 2) pe_str)))) pa_nil)))
    (pss_one (ps_ret (pe_op op_cat (pe_lst (pa_cons (pe_len T.b_len (pv 0)) (pa_cons (pe_len T.b_len (pv 1)) pa_nil))) (pv 1))))), ?_⟩
  obtain ⟨a, t, rfl, ha, hl, hx, q⟩ := h
  have htl : (t.map sV).length = t.length := List.length_map ..
  refine ⟨⟨_, rfl⟩, _, rfl, a, rfl, ⟨_, SqL.of ha⟩, fun D hD => ?_⟩
  refine lc_list (K := K) (a := a) (xs := t.map sV) (fun i H' => CInv H D (((t.take i).map (· ++ [10])).map sV) H') (.zero hD) (fun i H' _ pv => SqL.of (pv.2 a _ ha)) (fun i x H1 hx1 pv => ?_) (fun H' pv => ?_)
  · obtain ⟨y, hy, rfl⟩ := map_get hx1
    have hyl := hx y (List.mem_of_getElem? hy)
    refine ⟨rfl, ?_⟩
    refine ⟨_, rfl, _, _, rfl, rfl, ?_, ?_⟩
    · rw [toS_len]; exact sz_of (show y.length + 1 ≤ _ by omega)
    · rw [nl_toS, toS_app]
      refine ⟨_, pv.1, ?_, pv.snoc hD (Same.refl _) ?_⟩
      · rw [List.length_map, List.length_map, List.length_take]
        exact sz_lt (by omega)
      · rw [take_more hy, List.map_append, List.map_append]; rfl
  · rw [htl, List.take_length] at pv
    obtain ⟨p1, p2⟩ := pv
    have fl : ((t.map (· ++ [10])).flatten).length ≤ 10001 * 1000 := by
      have h3 := flat_le (t.map (· ++ [10])) 10001 fun x hx2 => by
        obtain ⟨y, hy, rfl⟩ := List.mem_map.mp hx2
        have := hx y hy
        rw [List.length_append]; exact Nat.add_le_add_right this 1
      rw [List.length_map] at h3
      exact Nat.le_trans h3 (by rw [Nat.mul_comm 10001]; exact Nat.mul_le_mul_right _ hl)
    have e0 : ∀ l : List Bytes, l.map sV = (l.map toS).map V.str := fun l => by rw [List.map_map]; rfl
    refine ⟨_, D, (t.map (· ++ [10])).map toS, rfl, rfl, .inl (SqL.of ((e0 _) ▸ p1)), ?_, ?_⟩
    · rw [sum_toS]
      exact Nat.le_trans fl (by decide)
    · rw [join_toS]
      refine ⟨_, rfl, Nat.le_trans fl (by decide), fun H2 B e2 hB hb => ?_⟩
      refine ⟨_, rfl, a, _, rfl, SqL.of (e2 a _ (p2 a _ ha)), ?_⟩
      refine ⟨_, rfl, B, _, rfl, SqL.of hb, ?_⟩
      refine ⟨sz2, fun M hM => ?_⟩
      refine ⟨_, rfl, M, B, _, _, rfl, rfl, upd_same, (upd_ne (ne_of_none hb hM)).trans hb, ?_, fun R hR => ?_⟩
      · have z : ((t.map (· ++ [10])).flatten.map iB).length = (t.map (· ++ [10])).flatten.length := List.length_map ..
        show 2 + ((t.map (· ++ [10])).flatten.map iB).length ≤ _
        rw [z]
        exact Nat.le_trans (Nat.add_le_add_left fl 2) (by decide)
      · have e3 := same_trans (same_trans p2 e2) (same_trans (same_new hM) (same_new (o := .lst ([V.int ((t.map sV).length : Nat), V.int (((t.map (· ++ [10])).flatten.map iB).length : Nat)] ++ (t.map (· ++ [10])).flatten.map iB)) hR))
        refine q _ R e3 (none_back (same_trans (same_trans p2 e2) (same_new hM)) hR) ?_
        show upd _ R _ R = some (HO.lst (V.int (t.length : Int) :: V.int ((Vaseda.showText t).length : Int) :: ((Vaseda.showText t).map fun c => (c.toNat : Int)).map V.int))
        rw [upd_same, htl, List.length_map, List.map_map]
        rfl
end
end Lp
set_option maxRecDepth 100000
set_option maxHeartbeats 2000000
namespace Lp
open PySem PySem.Spec PyProof.Rows L2
open VasedBase (Bytes word RESERVED showNat textRow)
open Vaseda (Line Text Cmd showCmd)
open Vasedc (Op Patch lineIn tellable scriptOf)
section
variable {P : Program} {w : World} {K : PySem.W.Frag} {mg : Str → Option Value} {base : Heap} {A : Ad}
def spToldScript : Sp := fun vs H Q _ => ∃ (a : Addr) (bs : List Bytes), vs = [.ref a] ∧ H a = some (.lst (bs.map sV)) ∧ bs.length ≤ 1000 ∧ (∀ x ∈ bs, x.length ≤ 10000) ∧ NewL H Q (((bs.length : Int) :: textRow bs.flatten).map V.int)
abbrev N_told_script : List Str := ["commands", "told"]
theorem sc_told_script : FnScope N_told_script ["commands"] (defScope (top 84)) := ⟨rfl, rfl, rfl, by decide +kernel, rfl, by decide +kernel, by decide +kernel⟩
theorem k_told_script (T : Txt K mg A) : Ok P w K mg base 2 "told_script" spToldScript := by
  refine ok_mk T.d_told_script sc_told_script (fun vs H Q E ⟨_, _, e, _⟩ => by rw [e]; rfl) fun f cdv AA outer s H vs Q E hr tk po h => ⟨_, (pss_cons (ps_set (i := 1) sc_told_script.nd rfl (Or.inl rfl) (pe_k (k_bytes_of T) hr tk (pa_cons (pe_join pe_str (pv 0)) pa_nil)))
    (pss_one (ps_ret (pe_op op_cat (pe_lst (pa_cons (pe_len T.b_len (pv 0)) (pa_cons (pe_len T.b_len (pv 1)) pa_nil))) (pv 1))))), ?_⟩
  obtain ⟨a, bs, rfl, ha, hl, hx, q⟩ := h
  have bl : (bs.map sV).length = bs.length := List.length_map ..
  have e0 : ∀ l : List Bytes, l.map sV = (l.map toS).map V.str := fun l => by rw [List.map_map]; rfl
  have fl : bs.flatten.length ≤ 1000 * 10000 := Nat.le_trans (flat_le bs 10000 hx) (Nat.mul_le_mul_right _ hl)
  refine ⟨⟨_, rfl⟩, _, rfl, ?_⟩
  refine ⟨_, a, bs.map toS, rfl, rfl, .inl (SqL.of ((e0 _) ▸ ha)), ?_, ?_⟩
  · rw [sum_toS]
    exact Nat.le_trans fl (by decide)
  · rw [join_toS]
    refine ⟨_, rfl, Nat.le_trans fl (by decide), fun H2 B e2 hB hb => ?_⟩
    refine ⟨_, rfl, a, _, rfl, SqL.of (e2 a _ ha), ?_⟩
    refine ⟨_, rfl, B, _, rfl, SqL.of hb, ?_⟩
    refine ⟨sz2, fun M hM => ?_⟩
    refine ⟨_, rfl, M, B, _, _, rfl, rfl, upd_same, (upd_ne (ne_of_none hb hM)).trans hb, ?_, fun R hR => ?_⟩
    · have z : (bs.flatten.map iB).length = bs.flatten.length := List.length_map ..
      show 2 + (bs.flatten.map iB).length ≤ _
      rw [z]
      exact Nat.le_trans (Nat.add_le_add_left fl 2) (by decide)
    · refine q _ R (same_trans (same_trans e2 (same_new hM)) (same_new hR)) (none_back (same_trans e2 (same_new hM)) hR) ?_
      show upd _ R _ R = some (HO.lst (V.int (bs.length : Int) :: V.int (bs.flatten.length : Int) :: (bs.flatten.map fun c => (c.toNat : Int)).map V.int))
      rw [upd_same, bl, List.length_map, List.map_map]
      rfl
/-! ### words that stand for letters -/
theorem own_is : ([.str "if", .str "all", .str "line", .str "from", .str "to", .str "last", .str "has", .str "is", .str "not", .str "delete", .str "before", .str "after", .str "change", .str "swap", .str "first", .str "keep", .str "bring", .str "trade", .str "skip", .str "stop", .str "none"] : List V) = RESERVED.map sV := by decide +kernel
theorem eqV_s (a b : Bytes) : eqV (sV a) (sV b) = (a == b) := by
  show (toS a == toS b) = _
  rw [Bool.eq_iff_iff, beq_iff_eq, beq_iff_eq, toS_iff]
theorem inV_s (b : Bytes) (ls : List Bytes) : inV (sV b) (ls.map sV) = ls.contains b := by
  unfold inV
  induction ls with
  | nil => rfl
  | cons a ls ih =>
    rw [List.map_cons, List.any_cons, ih, eqV_s, List.contains_cons]
    congr 1
    rw [Bool.eq_iff_iff, beq_iff_eq, beq_iff_eq]
    exact eq_comm
theorem flat_s (ls : List Bytes) : (ls.map sV).all flatV = true := by
  rw [List.all_map]
  exact List.all_eq_true.mpr fun _ _ => rfl
def spIsLetters : Sp := fun vs H Q _ => ∃ b : Bytes, vs = [sV b] ∧ b.length ≤ 16777216 ∧ Q (.bl (tellable b)) H
abbrev N_is_letters : List Str := ["word"]
theorem sc_is_letters : FnScope N_is_letters ["word"] (defScope (top 54)) := ⟨rfl, rfl, rfl, by decide +kernel, rfl, by decide +kernel, by decide +kernel⟩
theorem k_is_letters (T : Txt K mg A) : Ok P w K mg base 1 "is_letters" spIsLetters := by
  refine ok_mk T.d_is_letters sc_is_letters (fun vs H Q E ⟨_, e, _⟩ => by rw [e]; rfl) fun f cdv AA outer s H vs Q E hr tk po h => ⟨_, (pss_one (ps_ret (pe_and (pe_chain op_le op_le pe_int (pe_lenT T.b_len (pv 0)) (pe_gv T.c_LONGEST_WORD)) (pe_one (pe_cmpR op_notIn_seq (pv 0) (pe_gt T.c_OWN_WORDS) rfl))))), ?_⟩
  obtain ⟨b, rfl, hb, q⟩ := h
  have bl := toS_len b
  have no : ¬ (1 ≤ b.length ∧ b.length ≤ 8) → Q (.bl false) H := fun n => by
    unfold tellable at q
    rw [show decide (1 ≤ b.length ∧ b.length ≤ VasedBase.NAME) = false from decide_eq_false n] at q
    exact q
  refine ⟨_, rfl, _, rfl, by rw [bl]; exact sz16 hb, ?_⟩
  refine ⟨_, _, rfl, rfl, _, rfl, if_2 (fun c1 => ?_) fun c1 => ?_⟩
  · have c1 := of_decide_eq_true c1
    refine ⟨_, _, rfl, rfl, _, rfl, if_2 (fun c2 => ?_) fun c2 => ?_⟩
    · have c2 := of_decide_eq_true c2
      rw [own_is]
      refine ⟨_, rfl, fun a ha => ⟨a, _, rfl, .inr ha, rfl, flat_s _, ?_⟩⟩
      rw [inV_s]
      unfold tellable at q
      rw [show decide (1 ≤ b.length ∧ b.length ≤ VasedBase.NAME) = true from decide_eq_true (by rw [bl] at c1 c2; exact ⟨by omega, show b.length ≤ 8 by omega⟩)] at q
      exact q
    · have c2 := of_decide_eq_false c2
      rw [bl] at c2
      exact no (by omega)
  · have c1 := of_decide_eq_false c1
    rw [bl] at c1
    exact ⟨_, rfl, no (by omega)⟩
/-! ### commands by numbers -/
theorem lit {s : String} {b : Bytes} (h : (Str.ofString s == toS b) = true := by decide +kernel) : Str.ofString s = toS b := eq_of_beq h
theorem int_text : ∀ n : Fin 201, (Str.ofString (toString ((n.val : Nat) : Int)) == toS (showNat n.val)) = true := by decide +kernel
theorem int_toS {n : Nat} (h : n ≤ 200) : Str.ofString (toString (n : Int)) = toS (showNat n) := eq_of_beq (int_text ⟨n, by omega⟩)
theorem show_len : ∀ n : Fin 201, (showNat n.val).length ≤ 3 := by decide +kernel
theorem empty_app (b : Bytes) : Str.empty ++ toS b = toS b := toS_app [] b
theorem words1 : word "if line 1 before " = word "if " ++ (word "line " ++ showNat 1 ++ word " ") ++ word "before " := by decide +kernel
theorem words2 : word "if line " = word "if " ++ word "line " := by decide +kernel
theorem words3 : word " after " = word " " ++ word "after " := by decide +kernel
theorem words4 : word " delete ;\n" = word " " ++ (word "delete" ++ (word " ;" ++ [10])) := by decide +kernel
theorem words5 : word " ;\n" = word " ;" ++ [10] := by decide +kernel
theorem show_put0 (x : Line) : showCmd (Lp.putCmd 0 x) = word "if line 1 before " ++ x ++ word " ;\n" := by
  rw [words1, words5]
  show word "if " ++ ((word "line " ++ showNat 1) ++ word " ") ++ ((word "before " ++ x) ++ (word " ;" ++ [10])) = _
  simp only [List.append_assoc]
theorem show_put (n : Nat) (x : Line) (h : ¬ n = 0) : showCmd (Lp.putCmd n x) = word "if line " ++ showNat n ++ word " after " ++ x ++ word " ;\n" := by
  rw [words2, words3, words5]
  unfold Lp.putCmd
  rw [if_neg h]
  show word "if " ++ ((word "line " ++ showNat n) ++ word " ") ++ ((word "after " ++ x) ++ (word " ;" ++ [10])) = _
  simp only [List.append_assoc]
theorem show_del (n : Nat) : showCmd ⟨.line n, .delete⟩ = word "if line " ++ showNat n ++ word " delete ;\n" := by
  rw [words2, words4]
  show word "if " ++ ((word "line " ++ showNat n) ++ word " ") ++ (word "delete" ++ (word " ;" ++ [10])) = _
  simp only [List.append_assoc]
abbrev cmdV (c : Cmd) : V := sV (showCmd c)
def spPutCmd (A : Ad) : Sp := fun vs H Q E => ∃ (x : Line) (n : Nat), vs = [sV x, nV n] ∧ n ≤ 200 ∧ x.length ≤ 10000 ∧ (tellable x = true → Q (cmdV (Lp.putCmd n x)) H) ∧ (tellable x = false → Out E H A.nn [("number", .int (-6))])
abbrev N_command_to_put_in : List Str := ["line", "passed"]
theorem sc_command_to_put_in : FnScope N_command_to_put_in ["line", "passed"] (defScope (top 83)) := ⟨rfl, rfl, rfl, by decide +kernel, rfl, by decide +kernel, by decide +kernel⟩
theorem k_command_to_put_in (T : Txt K mg A) : Ok P w K mg base 4 "command_to_put_in" (spPutCmd A) := by
  refine ok_mk T.d_command_to_put_in sc_command_to_put_in (fun vs H Q E ⟨_, _, e, _⟩ => by rw [e]; rfl) fun f cdv AA outer s H vs Q E hr tk po h => ⟨_, (pss_cons (ps_if (pt_not (pt_val (pe_k (k_is_letters T) hr tk (pa_cons (pv 0) pa_nil)))) (pss_one (ps_raise rfl tk (pmk_ex0 (xk_NoScriptForPatch T) hr))) pss_nil)
    (pss_cons (ps_if (pt_cmpR op_eq (pv 1) pe_int (nomark _)) (pss_one (ps_ret (pe_joined (.cons pe_str (.cons (pe_fmt (pv 0)) (.cons pe_str .nil)))))) pss_nil)
    (pss_one (ps_ret (pe_joined (.cons pe_str (.cons (pe_fmt (pv 1)) (.cons pe_str (.cons (pe_fmt (pv 0)) (.cons pe_str .nil)))))))))), ?_⟩
  obtain ⟨x, n, rfl, hn, hx, q, o⟩ := h
  have xl := toS_len x
  have nl := show_len ⟨n, by omega⟩
  refine ⟨_, rfl, x, rfl, Nat.le_trans hx (by decide), ?_⟩
  refine ⟨_, rfl, ?_⟩
  cases ht : tellable x with
  | false => exact raise0 T.x_NoScriptForPatch (o ht)
  | true =>
    have q : Q (sV (showCmd (Lp.putCmd n x))) H := q ht
    refine ⟨_, rfl, rfl, _, rfl, if_2 (fun k => ?_) fun k => ?_⟩
    · have k : n = 0 := by have := int_t k; omega
      rw [k, show_put0] at q
      have a1 : Str.empty ++ Str.ofString "if line 1 before " = toS (word "if line 1 before ") := by rw [lit (s := "if line 1 before ") (b := word "if line 1 before "), empty_app]
      have w1 : (word "if line 1 before ").length = 17 := by decide +kernel
      refine ⟨_, rfl, by rw [a1, toS_len, w1]; decide, _, rfl, .inl ⟨toS x, rfl, by rw [xl]; exact sz_of (by omega), _, rfl, ?_, _, rfl, ?_, ?_⟩⟩
      · rw [a1, toS_app, toS_len, List.length_append, w1]; exact sz_of (by omega)
      · rw [a1, toS_app, lit (s := " ;\n") (b := word " ;\n"), toS_app, toS_len, List.length_append, List.length_append, w1, show (word " ;\n").length = 3 by decide +kernel]; exact sz_of (by omega)
      · rw [a1, toS_app, lit (s := " ;\n") (b := word " ;\n"), toS_app]
        exact q
    · have k : ¬ n = 0 := fun z => int_f k (by rw [z]; rfl)
      rw [show_put n x k] at q
      have a1 : Str.empty ++ Str.ofString "if line " = toS (word "if line ") := by rw [lit (s := "if line ") (b := word "if line "), empty_app]
      have w1 : (word "if line ").length = 8 := by decide +kernel
      have w2 : (word " after ").length = 7 := by decide +kernel
      have w3 : (word " ;\n").length = 3 := by decide +kernel
      have w4 := int_toS hn
      have l2 := lit (s := " after ") (b := word " after ")
      have l3 := lit (s := " ;\n") (b := word " ;\n")
      have nl : (showNat n).length ≤ 3 := nl
      refine ⟨_, rfl, by rw [a1, toS_len, w1]; decide, _, rfl, .inr ⟨_, rfl, ?_, _, rfl, ?_, _, rfl, ?_, _, rfl, .inl ⟨toS x, rfl, by rw [xl]; exact sz_of (by omega), _, rfl, ?_, _, rfl, ?_, ?_⟩⟩⟩
      · show (n : Int).natAbs.log2 < 1920
        exact Nat.lt_of_le_of_lt (Nat.log2_le_self _) (by show n < 1920; omega)
      · rw [a1, w4, toS_app, toS_len, List.length_append, w1]; exact sz_of (by omega)
      · rw [a1, w4, l2, toS_app, toS_app, toS_len, List.length_append, List.length_append, w1, w2]; exact sz_of (by omega)
      · rw [a1, w4, l2, toS_app, toS_app, toS_app, toS_len, List.length_append, List.length_append, List.length_append, w1, w2]; exact sz_of (by omega)
      · rw [a1, w4, l2, l3, toS_app, toS_app, toS_app, toS_app, toS_len, List.length_append, List.length_append, List.length_append, List.length_append, w1, w2, w3]; exact sz_of (by omega)
      · rw [a1, w4, l2, l3, toS_app, toS_app, toS_app, toS_app]
        exact q
end
end Lp
set_option maxRecDepth 100000
set_option maxHeartbeats 2000000
namespace Lp
open PySem PySem.Spec PyProof.Rows L2
open VasedBase (Bytes word RESERVED showNat textRow)
open Vaseda (Line Text Cmd showCmd)
open Vasedc (Op Patch lineIn tellable scriptOf)
section
variable {P : Program} {w : World} {K : PySem.W.Frag} {mg : Str → Option Value} {base : Heap} {A : Ad}
/-! ### lists of texts as data -/
abbrev dS (b : Bytes) : PyData := .str (toS b)
theorem dps (H : Hp) : ∀ ls : List Bytes, DpAll K H (ls.map sV) (ls.map dS)
  | [] => .nil
  | b :: ls => .cons (.str _) (dps H ls)
theorem strOk_S (b : Bytes) : PyData.strOk (toS b) = true := by
  unfold PyData.strOk
  rw [← Array.all_toList, toS_cps, List.all_map]
  exact List.all_eq_true.mpr fun x _ => decide_eq_true (by have := x.toNat_lt; show x.toNat < _; omega)
theorem canLays : ∀ ls : List Bytes, PyData.canLayAll0 (ls.map dS) = true
  | [] => rfl
  | b :: ls => by
    show (PyData.strOk (toS b) && PyData.canLayAll0 (ls.map dS)) = true
    rw [strOk_S, canLays ls]; rfl
theorem depths : ∀ ls : List Bytes, PyData.depthAll (ls.map dS) = 0
  | [] => rfl
  | b :: ls => by
    show max 0 (PyData.depthAll (ls.map dS)) = 0
    rw [depths ls]; rfl
theorem shapedS (ls : List Bytes) : SeqAt.shaped (.list (ls.map dS)) = true := by
  unfold SeqAt.shaped
  rw [show PyData.canLay0 (.list (ls.map dS)) = PyData.canLayAll0 (ls.map dS) from rfl, canLays]
  rw [show PyData.depth (.list (ls.map dS)) = PyData.depthAll (ls.map dS) + 1 from rfl, depths]
  rfl
theorem eqvS : ∀ a b : List Bytes, PyData.eqvAll (a.map dS) (b.map dS) = decide (a = b)
  | [], [] => rfl
  | [], _ :: _ => rfl
  | _ :: _, [] => rfl
  | x :: a, y :: b => by
    show ((toS x == toS y) && PyData.eqvAll (a.map dS) (b.map dS)) = _
    rw [eqvS a b, Bool.eq_iff_iff]
    simp [toS_iff]
theorem eqv_nil (ls : List Bytes) : PyData.eqv (.list (ls.map dS)) (.list []) = decide (ls = []) := eqvS ls []
def spNumbered (A : Ad) : Sp := fun vs H Q E => ∃ (a : Addr) (p : Patch), vs = [.ref a] ∧ MarksAt H a p ∧ p.length ≤ 200 ∧ (∀ o ∈ p, (lineIn o).length ≤ 1000) ∧ (∀ s, scriptOf p = some s → New H Q fun H' D => H' D = some (.lst (s.map cmdV))) ∧ (scriptOf p = none → Out E H A.nn [("number", .int (-6))])
abbrev N_numbered_script : List Str := ["marks", "commands", "deletion", "passed", "mark", "line"]
theorem sc_numbered_script : FnScope N_numbered_script ["marks"] (defScope (top 82)) := ⟨rfl, rfl, rfl, by decide +kernel, rfl, by decide +kernel, by decide +kernel⟩
theorem k_numbered_script (T : Txt K mg A) : Ok P w K mg base 5 "numbered_script" (spNumbered A) := by
  refine ok_mk T.d_numbered_script sc_numbered_script (fun vs H Q E ⟨_, _, e, _⟩ => by rw [e]; rfl) fun f cdv AA outer s H vs Q E hr tk po h => ⟨_, (pss_cons (ps_set (i := 1) sc_numbered_script.nd rfl (Or.inl rfl) (pe_lst pa_nil))
    (pss_cons (ps_set (i := 2) sc_numbered_script.nd rfl (Or.inl rfl) (pe_lst pa_nil))
    (pss_cons (ps_set (i := 3) sc_numbered_script.nd rfl (Or.inl rfl) pe_int)
    (pss_cons (ps_for po rfl (pi_list (pv 0)) (pg_tup rfl (pgs_cons (pg_name (i := 4) sc_numbered_script.nd rfl (Or.inl rfl)) (pgs_cons (pg_name (i := 5) sc_numbered_script.nd rfl (Or.inl rfl)) pgs_nil))) (pss_cons (ps_if (pt_cmpR op_eq (pv 4) (pe_gv T.c_PUT_IN) (nomark _)) (pss_cons (ps_expr (pe_bm PySem.F.plainAttrs_list PySem.F.slot_list_append PySem.F.type_list_append mt_append (pv 1) (pa_cons (pe_k (k_command_to_put_in T) hr tk (pa_cons (pv 5) (pa_cons (pv 3) pa_nil))) pa_nil)))
    (pss_one ps_continue)) pss_nil)
    (pss_cons (ps_expr (pe_bm PySem.F.plainAttrs_list PySem.F.slot_list_extend PySem.F.type_list_extend mt_extend (pv 1) (pa_cons (pv 2) pa_nil)))
    (pss_cons (ps_aug (i := 3) sc_numbered_script.nd rfl (.inl rfl) pe_int ip_add)
    (pss_one (ps_set (i := 2) sc_numbered_script.nd rfl (Or.inl rfl) (pe_ifExp (pt_cmpR op_eq (pv 4) (pe_gv T.c_TAKEN_OUT) (nomark _)) (pe_lst (pa_cons (pe_joined (.cons pe_str (.cons (pe_fmt (pv 3)) (.cons pe_str .nil)))) pa_nil)) (pe_lst pa_nil))))))))
    (pss_cons (ps_expr (pe_bm PySem.F.plainAttrs_list PySem.F.slot_list_extend PySem.F.type_list_extend mt_extend (pv 1) (pa_cons (pv 2) pa_nil)))
    (pss_cons (ps_if (PW.pt (pw_or (pt_cmpR op_gt (pe_len T.b_len (pv 1)) (pe_gv T.c_MOST_COMMANDS) (nomark _)) (pw_or1 (PW.pt (pw_and (pt_cmpR op_eq (pv 3) pe_int (nomark _)) (pw_and1 (pt_cmpR (op_neD hr.units) (pv 1) (pe_lst pa_nil) (nomark _)))))))) (pss_one (ps_raise rfl tk (pmk_ex0 (xk_NoScriptForPatch T) hr))) pss_nil)
    (pss_one (ps_ret (pv 1))))))))), ?_⟩
  obtain ⟨a, p, rfl, ⟨rs, h1, h2⟩, hp, hx, q, o⟩ := h
  have hl : (rs.map V.ref).length = p.length := by rw [List.length_map, h2.len]
  refine ⟨Nat.zero_le _, fun C hC => ?_⟩
  refine ⟨Nat.zero_le _, fun D0 hD0 => ?_⟩
  have e0 := same_trans (same_new (o := .lst []) hC) (same_new (o := .lst []) hD0)
  have hDC : D0 ≠ C := fun z => by rw [z, upd_same] at hD0; cases hD0
  refine ⟨_, rfl, a, rfl, ⟨_, SqL.of (e0 a _ h1)⟩, ?_⟩
  refine for_list (K := K) (a := a) (xs := rs.map V.ref) (fun i σ H' => ∃ cs gone n dA m l, σ = [some (.ref a), some (.ref C), some (.ref dA), some (nV n), m, l] ∧ CInv H C (cs.map cmdV) H' ∧ H' dA = some (.lst ((delOf gone n).map cmdV)) ∧ dA ≠ C ∧ n ≤ i ∧ NumAt p i cs gone n) ?_ ?_ ?_ ?_
  · exact ⟨[], false, 0, D0, none, none, rfl, ⟨(upd_ne hDC.symm).trans upd_same, e0⟩, upd_same, hDC, Nat.le_refl _, numAt_start p⟩
  · rintro i σ H' _ ⟨cs, gone, n, dA, m, l, rfl, pv, _⟩
    exact SqL.of (pv.2 a _ h1)
  · rintro i x σ H' hx1 ⟨cs, gone, n, dA, m, l, rfl, pv, hdA, ne, hni, na⟩
    obtain ⟨r, hr', rfl⟩ := map_get hx1
    obtain ⟨op, ho, hro⟩ := h2.get hr'
    have hi := get_lt ho
    have hcl := na.len
    refine ⟨r, _, rfl, SqT.of (pv.2 r _ hro), rfl, ?_⟩
    refine ⟨_, _, rfl, _, _, rfl, rfl, ?_⟩
    refine ⟨_, rfl, rfl, _, rfl, if_2 (fun k => ?_) fun k => ?_⟩
    · obtain ⟨z, rfl⟩ := kind2.mp (int_t k)
      refine ⟨_, rfl, .inl ⟨rfl, _, SqL.of pv.1⟩, ?_⟩
      refine ⟨_, rfl, _, rfl, z, n, rfl, by omega, Nat.le_trans (hx _ (List.mem_of_getElem? ho)) (by decide), fun t => ?_, fun t => ?_⟩
      · refine ⟨C, _, _, rfl, rfl, pv.1, sz_lt (by rw [List.length_map]; omega), ?_⟩
        exact ⟨_, gone, n, dA, _, _, rfl, pv.more hC (Same.refl _) (by rw [List.map_append]; rfl), (upd_ne ne).trans hdA, ne, by omega, numAt_put na ho t⟩
      · exact (o (numAt_refused na ho t)).mono pv.2
    · refine ⟨_, rfl, .inl ⟨rfl, _, SqL.of pv.1⟩, ?_⟩
      refine ⟨_, rfl, C, dA, _, _, rfl, rfl, pv.1, hdA, sz_of (by rw [List.length_map, List.length_map]; omega), ?_⟩
      have pv' : CInv H C ((cs ++ delOf gone n).map cmdV) (upd H' C (.lst (cs.map cmdV ++ (delOf gone n).map cmdV))) := pv.more hC (Same.refl _) (by rw [List.map_append])
      refine ⟨_, rfl, _, _, rfl, rfl, ?_⟩
      refine ⟨_, rfl, rfl, _, rfl, if_2 (fun k1 => ?_) fun k1 => ?_⟩
      · obtain ⟨z, rfl⟩ := kind1.mp (int_t k1)
        have a1 : Str.empty ++ Str.ofString "if line " = toS (word "if line ") := by rw [lit (s := "if line ") (b := word "if line "), empty_app]
        have w1 : (word "if line ").length = 8 := by decide +kernel
        have w2 : (word " delete ;\n").length = 10 := by decide +kernel
        have w4 : Str.ofString (toString ((n : Int) + 1)) = toS (showNat (n + 1)) := int_toS (n := n + 1) (by omega)
        have l2 := lit (s := " delete ;\n") (b := word " delete ;\n")
        have nl : (showNat (n + 1)).length ≤ 3 := show_len ⟨n + 1, by omega⟩
        refine ⟨_, rfl, by rw [a1, toS_len, w1]; decide, _, rfl, .inr ⟨_, rfl, ?_, _, rfl, ?_, _, rfl, ?_, ?_⟩⟩
        · show ((n : Int) + 1).natAbs.log2 < 1920
          exact Nat.lt_of_le_of_lt (Nat.log2_le_self _) (by omega)
        · rw [a1, w4, toS_app, toS_len, List.length_append, w1]; exact sz_of (by omega)
        · rw [a1, w4, l2, toS_app, toS_app, toS_len, List.length_append, List.length_append, w1, w2]; exact sz_of (by omega)
        · rw [a1, w4, l2, toS_app, toS_app, ← show_del]
          refine ⟨sz1, fun d hd => ?_⟩
          have na' := numAt_drop na ho
          have ce : ∀ xs : List Cmd, xs = cs ++ delOf gone n → xs.map cmdV = cs.map cmdV ++ (delOf gone n).map cmdV := fun xs e => by rw [e, List.map_append]
          exact ⟨_, true, n + 1, d, _, _, rfl, ⟨(upd_ne (ne_of_none pv'.1 hd)).trans pv'.1, same_trans pv'.2 (same_new hd)⟩, upd_same, (fun z => by rw [z, pv'.1] at hd; cases hd), by omega, na'⟩
      · have kk : ∃ z, op = .keep z := by
          cases op with
          | keep z => exact ⟨z, rfl⟩
          | drop z => exact absurd rfl (int_f k1)
          | put z => exact absurd rfl (int_f k)
        obtain ⟨z, rfl⟩ := kk
        refine ⟨Nat.zero_le _, fun d hd => ?_⟩
        exact ⟨_, false, n + 1, d, _, _, rfl, ⟨(upd_ne (ne_of_none pv'.1 hd)).trans pv'.1, same_trans pv'.2 (same_new hd)⟩, upd_same, (fun z => by rw [z, pv'.1] at hd; cases hd), by omega, numAt_keep na ho⟩
  · rintro σ H' ⟨cs, gone, n, dA, m, l, rfl, pv, hdA, ne, hni, na⟩
    rw [hl] at na hni
    have hcl := na.len
    have fin := numAt_end na rfl
    refine ⟨_, rfl, .inl ⟨rfl, _, SqL.of pv.1⟩, ?_⟩
    refine ⟨_, rfl, C, dA, _, _, rfl, rfl, pv.1, hdA, sz_of (by rw [List.length_map, List.length_map]; omega), ?_⟩
    have pv' : CInv H C ((cs ++ delOf gone n).map cmdV) (upd H' C (.lst (cs.map cmdV ++ (delOf gone n).map cmdV))) := pv.more hC (Same.refl _) (by rw [List.map_append])
    rw [← List.map_append]
    rw [← List.map_append] at pv'
    have tl : ((cs ++ delOf gone n).map cmdV).length = (cs ++ delOf gone n).length := List.length_map ..
    refine ⟨_, rfl, C, _, rfl, SqL.of upd_same, ?_⟩
    rw [tl]
    have raise : (16 < (cs ++ delOf gone n).length ∨ (n = 0 ∧ cs ++ delOf gone n ≠ [])) → ∀ {H1}, Same H H1 → Out E H1 A.nn [("number", .int (-6))] := fun z H1 e => (o (by rw [fin, if_pos z])).mono e
    refine ⟨_, _, rfl, rfl, _, rfl, if_2 (fun c => ?_) fun c => ?_⟩
    · have c := of_decide_eq_true c
      exact raise0 T.x_NoScriptForPatch (raise (.inl (by omega)) pv'.2)
    · have c := of_decide_eq_false c
      have ev := eqv_nil ((cs ++ delOf gone n).map showCmd)
      rw [List.map_map] at ev
      have em : ((cs ++ delOf gone n).map showCmd).map sV = (cs ++ delOf gone n).map cmdV := by rw [List.map_map]; rfl
      have go : ∀ H2, Same H H2 → H2 C = some (.lst ((cs ++ delOf gone n).map cmdV)) → ¬ (n = 0 ∧ cs ++ delOf gone n ≠ []) → Q (.ref C) H2 := fun H2 e2 h2' nn => q (cs ++ delOf gone n) (by rw [fin, if_neg (by rintro (z | z); omega; exact nn z)]) H2 C e2 hC h2'
      refine ⟨_, rfl, rfl, _, rfl, if_2 (fun c2 => ?_) fun c2 => ?_⟩
      · have c2 : n = 0 := by have := int_t c2; omega
        refine ⟨_, rfl, Nat.zero_le _, fun L hL => ?_⟩
        have hC2 := (upd_ne (o := .lst []) (ne_of_none pv'.1 hL)).trans pv'.1
        refine ⟨_, _, .lst (SqL.of hC2) (em ▸ dps _ ((cs ++ delOf gone n).map showCmd)), .lst (SqL.of upd_same) .nil, shapedS _, rfl, _, rfl, ?_⟩
        rw [eqv_nil]
        refine if_2 (fun c3 => ?_) fun c3 => ?_
        · have c3 : ¬ cs ++ delOf gone n = [] := fun z => by rw [z] at c3; exact absurd c3 (by decide)
          exact raise0 T.x_NoScriptForPatch (raise (.inr ⟨c2, c3⟩) (same_trans pv'.2 (same_new hL)))
        · have c3 : cs ++ delOf gone n = [] := by simpa using c3
          exact ⟨_, rfl, go _ (same_trans pv'.2 (same_new hL)) hC2 fun z => z.2 c3⟩
      · have c2 : ¬ n = 0 := fun z => int_f c2 (by rw [z]; rfl)
        exact ⟨_, rfl, go _ pv'.2 upd_same fun z => c2 z.1⟩
end
end Lp
set_option maxRecDepth 100000
set_option maxHeartbeats 2000000
namespace Lp
open PySem PySem.Spec PyProof.Rows L2
open VasedBase (Bytes)
open Vaseda (Line Text)
open Vasedc (Op Patch lineIn Hunk hunks)
section
variable {X : Cx}
/-- a list beside the empty one -/
theorem op_eqE (hu : X.A.units + 64 < cLine) : OpR X (compareOp .Eq) (fun x y H Q => ∃ a b xs, x = .ref a ∧ y = .ref b ∧ SqL X.K H a xs ∧ SqL X.K H b [] ∧ Q (.bl xs.isEmpty) H) := by
  intro pins s σ H x y v u Q I rx ry h
  obtain ⟨a, b, xs, rfl, rfl, h1, h2, q⟩ := h
  cases rx; cases ry
  obtain ⟨i1, r1, p1, _⟩ := I.list h1
  obtain ⟨i2, r2, p2, _⟩ := I.list h2
  cases r2
  have hu' : X.A.units < cLine := by omega
  cases r1 with
  | nil => exact SeqAt.eq_listAt (e := fun _ => true) p1.isList p2.isList rfl hu' (fun j h1 _ => absurd h1 (by simp)) ⟨.bl true, H, I, rfl, q⟩
  | cons ra rb => exact SeqAt.eq_list_lengthsAt p1.isList p2.isList (by simp) hu' ⟨.bl false, H, I, rfl, q⟩
theorem op_neE (hu : X.A.units + 64 < cLine) : OpR X (compareOp .NotEq) (fun x y H Q => ∃ a b xs, x = .ref a ∧ y = .ref b ∧ SqL X.K H a xs ∧ SqL X.K H b [] ∧ Q (.bl (!xs.isEmpty)) H) := by
  intro pins s σ H x y v u Q I rx ry h
  obtain ⟨a, b, xs, rfl, rfl, h1, h2, q⟩ := h
  cases rx; cases ry
  obtain ⟨i1, r1, p1, _⟩ := I.list h1
  obtain ⟨i2, r2, p2, _⟩ := I.list h2
  cases r2
  have hu' : X.A.units < cLine := by omega
  cases r1 with
  | nil => exact SeqAt.RcNeAt.lists (e := fun _ => true) p1.isList p2.isList rfl hu' (fun j h1 _ => absurd h1 (by simp)) _ _ _ _ ⟨.bl false, H, I, rfl, q⟩
  | cons ra rb => exact SeqAt.RcNeAt.lists_lengths p1.isList p2.isList (by simp) hu' _ _ _ _ ⟨.bl true, H, I, rfl, q⟩
end
section
variable {P : Program} {w : World} {K : PySem.W.Frag} {mg : Str → Option Value} {base : Heap} {A : Ad}
abbrev chF (p : Int) (b o n q : Addr) : List (Str × V) := [("place", .int p), ("before", .ref b), ("taken_out", .ref o), ("put_in", .ref n), ("behind", .ref q)]
def SameX (c : Addr) (H H' : Hp) : Prop := ∀ a u, a ≠ c → H a = some u → H' a = some u
def spIniChange (A : Ad) : Sp := fun vs H Q _ => ∃ (c dx b : Addr) (p : Int), vs = [.ref c, .int p, .ref b] ∧ H c = some (.ins A.ch dx []) ∧
  ∀ H' o n q, SameX c H H' → H' c = some (.ins A.ch dx (chF p b o n q)) → H' o = some (.lst []) → H' n = some (.lst []) → H' q = some (.lst []) → H o = none → H n = none → H q = none → o ≠ n → o ≠ q → n ≠ q → Q .non H'
abbrev N_Change___init__ : List Str := ["self", "place", "before"]
theorem sc_Change___init__ : FnScope N_Change___init__ ["self", "place", "before"] (defScope (inClass (top 23) 0)) := ⟨rfl, rfl, rfl, by decide +kernel, rfl, by decide +kernel, by decide +kernel⟩
theorem mk_Change (T : Txt K mg A) : KOk P w K mg base 1 "Change" A.ch (spIniChange A) := by
  obtain ⟨f, fd, F, hm, b⟩ := T.i_Change.ex
  refine ⟨f, fd, _, fn_mk F sc_Change___init__ (fun vs H Q E ⟨_, _, _, _, e, _⟩ => by rw [e]; rfl) fun cdv AA outer s H vs Q E hr tk po h => ⟨_, (pss_cons (ps_fld (pv 0) (pv 1) rfl)
    (pss_cons (ps_fld (pv 0) (pv 2) rfl)
    (pss_cons (ps_fld (pv 0) (pe_lst pa_nil) rfl)
    (pss_cons (ps_fld (pv 0) (pe_lst pa_nil) rfl)
    (pss_one (ps_fld (pv 0) (pe_lst pa_nil) rfl)))))), ?_⟩, hm, b, T.q_Change.gC⟩
  obtain ⟨c, dx, b, p, rfl, hc, q⟩ := h
  refine ⟨_, rfl, _, rfl, c, _, dx, _, rfl, hc, T.q_Change.cl, T.q_Change.no _ (by decide), by decide, ?_⟩
  refine ⟨_, rfl, _, rfl, c, _, dx, _, rfl, upd_same, T.q_Change.cl, T.q_Change.no _ (by decide), by show 1 < 1000; decide, ?_⟩
  refine ⟨Nat.zero_le _, fun o ho => ?_⟩
  refine ⟨_, rfl, c, _, dx, _, rfl, (upd_ne (ne_of_none upd_same ho)).trans upd_same, T.q_Change.cl, T.q_Change.no _ (by decide), by show 2 < 1000; decide, ?_⟩
  refine ⟨Nat.zero_le _, fun n hn => ?_⟩
  refine ⟨_, rfl, c, _, dx, _, rfl, (upd_ne (ne_of_none upd_same hn)).trans upd_same, T.q_Change.cl, T.q_Change.no _ (by decide), by show 3 < 1000; decide, ?_⟩
  refine ⟨Nat.zero_le _, fun r hr => ?_⟩
  refine ⟨_, rfl, c, _, dx, _, rfl, (upd_ne (ne_of_none upd_same hr)).trans upd_same, T.q_Change.cl, T.q_Change.no _ (by decide), by show 4 < 1000; decide, ?_⟩
  have co : c ≠ o := ne_of_none upd_same ho
  have cn : c ≠ n := ne_of_none upd_same hn
  have cr : c ≠ r := ne_of_none upd_same hr
  have on : o ≠ n := ne_of_none ((upd_ne co.symm).trans upd_same) hn
  have nr : n ≠ r := ne_of_none ((upd_ne cn.symm).trans upd_same) hr
  have or : o ≠ r := ne_of_none (o := .lst []) (by rw [upd_ne co.symm, upd_ne on, upd_ne co.symm, upd_same]) hr
  have ho' : H o = none := by simpa [upd, co.symm] using ho
  have hn' : H n = none := by simpa [upd, cn.symm, on.symm] using hn
  have hr' : H r = none := by simpa [upd, cr.symm, nr.symm, or.symm] using hr
  refine q _ o n r (fun a u h e => ?_) upd_same ?_ ?_ ?_ ho' hn' hr' on or nr
  · have h1 : a ≠ o := ne_of_none e ho'
    have h2 : a ≠ n := ne_of_none e hn'
    have h3 : a ≠ r := ne_of_none e hr'
    simp [upd, h, h1, h2, h3, e]
  · simp [upd, co.symm, on, or]
  · simp [upd, cn.symm, nr]
  · simp [upd, cr.symm]
def spKeepBehind (A : Ad) : Sp := fun vs H Q _ => ∃ (C kp : Addr) (x : Line) (rs : List Addr) (kept : Text), vs = [.ref C, .ref kp, sV x] ∧ H C = some (.lst (rs.map V.ref)) ∧ LnAt H kp kept ∧
  ((rs = [] ∨ ¬ kept.length < 2) → ∀ H', Same H H' → Q .non H') ∧
  (kept.length < 2 → ∀ rs0 r, rs = rs0 ++ [r] → ∃ dx p b o n q rest, H r = some (.ins A.ch dx (chF p b o n q)) ∧ LnAt H q rest ∧ rest.length ≤ 1000 ∧ ∀ H', SameX q H H' → LnAt H' q (rest ++ [x]) → Q .non H')
abbrev N_keep_behind : List Str := ["changes", "kept", "line"]
theorem sc_keep_behind : FnScope N_keep_behind ["changes", "kept", "line"] (defScope (top 25)) := ⟨rfl, rfl, rfl, by decide +kernel, rfl, by decide +kernel, by decide +kernel⟩
theorem k_keep_behind (T : Txt K mg A) : Ok P w K mg base 1 "keep_behind" (spKeepBehind A) := by
  refine ok_mk T.d_keep_behind sc_keep_behind (fun vs H Q E ⟨_, _, _, _, _, e, _⟩ => by rw [e]; rfl) fun f cdv AA outer s H vs Q E hr tk po h => ⟨_, (pss_one (ps_if (PW.pt (pw_and (pt_cmpR (op_neE hr.units) (pv 0) (pe_lst pa_nil) (nomark _)) (pw_and1 (pt_cmpR op_lt (pe_len T.b_len (pv 1)) (pe_gv T.c_MOST_AROUND) (nomark _))))) (pss_one (ps_expr (pe_bm PySem.F.plainAttrs_list PySem.F.slot_list_append PySem.F.type_list_append mt_append (pe_fld (pe_ix ix_list (pv 0) (pe_un un_neg pe_int) (fun _ _ => rfl)) rfl) (pa_cons (pv 2) pa_nil)))) pss_nil)), ?_⟩
  obtain ⟨C, kp, x, rs, kept, rfl, hC, hk, q1, q2⟩ := h
  refine ⟨_, rfl, Nat.zero_le _, fun L hL => ?_⟩
  have e1 := same_new (o := .lst []) hL
  refine ⟨C, L, _, rfl, rfl, SqL.of (e1 C _ hC), SqL.of upd_same, ?_⟩
  refine ⟨_, rfl, if_and (fun z => ⟨_, rfl, kp, _, rfl, SqL.of (e1 kp _ hk), _, _, rfl, rfl, _, rfl, z⟩) (fun c1 c2 => ?_) fun c => ?_⟩
  · have c2 := of_decide_eq_true c2
    rw [List.length_map] at c2
    rcases List.eq_nil_or_concat rs with z | ⟨rs0, r, z⟩
    · rw [z] at c1; exact absurd c1 (by decide)
    · obtain ⟨dx, p, b, o, n, q, rest, g1, g2, g3, g4⟩ := q2 (by omega) rs0 r (by rw [z, List.concat_eq_append])
      refine ⟨_, rfl, _, rfl, ?_⟩
      refine ⟨C, _, _, .ref r, rfl, rfl, SqL.of (e1 C _ hC), by rw [z, List.concat_eq_append, List.map_append]; exact atI_last _ _, ?_⟩
      refine ⟨r, _, dx, _, .ref q, rfl, e1 r _ g1, T.q_Change.cl, T.q_Change.no _ (by decide), rfl, ?_⟩
      refine ⟨.inl ⟨rfl, _, SqL.of (e1 q _ g2)⟩, ?_⟩
      refine ⟨_, rfl, q, _, _, rfl, rfl, e1 q _ g2, sz_lt (by rw [List.length_map]; omega), ?_⟩
      refine g4 _ (fun a u h e => by rw [upd_ne h]; exact e1 a u e) ?_
      show upd _ q _ q = _
      rw [upd_same, List.map_append]; rfl
  · refine q1 ?_ _ e1
    rcases c with c | c
    · left
      cases rs with
      | nil => rfl
      | cons _ _ => cases c
    · have c := of_decide_eq_false c
      rw [List.length_map] at c
      right; omega
def spAddTo (A : Ad) : Sp := fun vs H Q _ => ∃ (r dx : Addr) (p : Int) (b o n q : Addr) (k : Int) (x : Line) (old new : Text), vs = [.ref r, .int k, sV x] ∧ H r = some (.ins A.ch dx (chF p b o n q)) ∧ LnAt H o old ∧ LnAt H n new ∧ old.length ≤ 1000 ∧ new.length ≤ 1000 ∧
  (k = 1 → Q .non (upd H o (.lst ((old ++ [x]).map sV)))) ∧ (¬ k = 1 → Q .non (upd H n (.lst ((new ++ [x]).map sV))))
abbrev N_add_to : List Str := ["change", "mark", "line"]
theorem sc_add_to : FnScope N_add_to ["change", "mark", "line"] (defScope (top 26)) := ⟨rfl, rfl, rfl, by decide +kernel, rfl, by decide +kernel, by decide +kernel⟩
theorem k_add_to (T : Txt K mg A) : Ok P w K mg base 1 "add_to" (spAddTo A) := by
  refine ok_mk T.d_add_to sc_add_to (fun vs H Q E ⟨_, _, _, _, _, _, _, _, _, _, _, e, _⟩ => by rw [e]; rfl) fun f cdv AA outer s H vs Q E hr tk po h => ⟨_, (pss_one (ps_if (pt_cmpR op_eq (pv 1) (pe_gv T.c_TAKEN_OUT) (nomark _)) (pss_one (ps_expr (pe_bm PySem.F.plainAttrs_list PySem.F.slot_list_append PySem.F.type_list_append mt_append (pe_fld (pv 0) rfl) (pa_cons (pv 2) pa_nil)))) (pss_one (ps_expr (pe_bm PySem.F.plainAttrs_list PySem.F.slot_list_append PySem.F.type_list_append mt_append (pe_fld (pv 0) rfl) (pa_cons (pv 2) pa_nil)))))), ?_⟩
  obtain ⟨r, dx, p, b, o, n, q, k, x, old, new, rfl, hr', ho, hn, l1, l2, q1, q2⟩ := h
  refine ⟨_, rfl, rfl, _, rfl, if_2 (fun c => ?_) fun c => ?_⟩
  · refine ⟨_, rfl, r, _, dx, _, .ref o, rfl, hr', T.q_Change.cl, T.q_Change.no _ (by decide), rfl, .inl ⟨rfl, _, SqL.of ho⟩, ?_⟩
    refine ⟨_, rfl, o, _, _, rfl, rfl, ho, sz_lt (by rw [List.length_map]; omega), ?_⟩
    have := q1 (int_t c)
    rw [List.map_append] at this
    exact this
  · refine ⟨_, rfl, r, _, dx, _, .ref n, rfl, hr', T.q_Change.cl, T.q_Change.no _ (by decide), rfl, .inl ⟨rfl, _, SqL.of hn⟩, ?_⟩
    refine ⟨_, rfl, n, _, _, rfl, rfl, hn, sz_lt (by rw [List.length_map]; omega), ?_⟩
    have := q2 (int_f c)
    rw [List.map_append] at this
    exact this
end
end Lp
set_option maxRecDepth 100000
set_option maxHeartbeats 2000000
namespace Lp
open PySem PySem.Spec PyProof.Rows L2
open VasedBase (Bytes)
open Vaseda (Line Text)
open Vasedc (Op Patch lineIn Hunk hunks)
section
variable {P : Program} {w : World} {K : PySem.W.Frag} {mg : Str → Option Value} {base : Heap} {A : Ad}
/-- a change at c, its lists none of those of av -/
def HA (A : Ad) (av : Addr → Prop) (H : Hp) (c : Addr) (h : Hunk) : Prop := ∃ dx b o n q, H c = some (.ins A.ch dx (chF (h.at_ : Int) b o n q)) ∧ LnAt H b h.ahead ∧ LnAt H o h.old ∧ LnAt H n h.new ∧ LnAt H q h.rest ∧ ¬ av b ∧ ¬ av o ∧ ¬ av n ∧ ¬ av q
theorem HA.upd {av : Addr → Prop} {H : Hp} {c x : Addr} {h : Hunk} {ys : List V} {u : HO} (k : HA A av H c h) (hx : av x) (hl : H x = some (.lst ys)) : HA A av (upd H x u) c h := by
  obtain ⟨dx, b, o, n, q, h0, h1, h2, h3, h4, n1, n2, n3, n4⟩ := k
  have ne : ∀ {a : Addr}, ¬ av a → a ≠ x := fun na z => na (by rw [z]; exact hx)
  exact ⟨dx, b, o, n, q, (upd_ne (ne_of h0 hl (by intro z; cases z))).trans h0, (upd_ne (ne n1)).trans h1, (upd_ne (ne n2)).trans h2, (upd_ne (ne n3)).trans h3, (upd_ne (ne n4)).trans h4, n1, n2, n3, n4⟩
theorem HA.same {av : Addr → Prop} {H H' : Hp} {c : Addr} {h : Hunk} (k : HA A av H c h) (e : Same H H') : HA A av H' c h := by
  obtain ⟨dx, b, o, n, q, h0, h1, h2, h3, h4, r⟩ := k
  exact ⟨dx, b, o, n, q, e c _ h0, e b _ h1, e o _ h2, e n _ h3, e q _ h4, r⟩
theorem HA.sameX {av : Addr → Prop} {H H' : Hp} {c x : Addr} {h : Hunk} {ys : List V} (k : HA A av H c h) (hx : av x) (hl : H x = some (.lst ys)) (e : SameX x H H') : HA A av H' c h := by
  obtain ⟨dx, b, o, n, q, h0, h1, h2, h3, h4, n1, n2, n3, n4⟩ := k
  have ne : ∀ {a : Addr}, ¬ av a → a ≠ x := fun na z => na (by rw [z]; exact hx)
  exact ⟨dx, b, o, n, q, e c _ (ne_of h0 hl (by intro z; cases z)) h0, e b _ (ne n1) h1, e o _ (ne n2) h2, e n _ (ne n3) h3, e q _ (ne n4) h4, n1, n2, n3, n4⟩
theorem HA.av {av av' : Addr → Prop} {H : Hp} {c : Addr} {h : Hunk} (k : HA A av H c h) (f : ∀ a u, H a = some u → ¬ av a → ¬ av' a) : HA A av' H c h := by
  obtain ⟨dx, b, o, n, q, h0, h1, h2, h3, h4, n1, n2, n3, n4⟩ := k
  exact ⟨dx, b, o, n, q, h0, h1, h2, h3, h4, f b _ h1 n1, f o _ h2 n2, f n _ h3 n3, f q _ h4 n4⟩
/-- the last change, its lists apart -/
structure LastC (A : Ad) (H0 : Hp) (C kp : Addr) (H : Hp) (r : Addr) (h : Hunk) (b o n q : Addr) : Prop where
  ins : ∃ dx, H r = some (.ins A.ch dx (chF (h.at_ : Int) b o n q))
  b_ : LnAt H b h.ahead
  o_ : LnAt H o h.old
  n_ : LnAt H n h.new
  q_ : LnAt H q h.rest
  nd : [C, kp, b, o, n, q].Nodup
  fr : H0 o = none ∧ H0 n = none ∧ H0 q = none
/-- the changes so far -/
structure ChI (A : Ad) (H0 : Hp) (C kp : Addr) (H : Hp) (s : ChS) : Prop where
  kp_ : LnAt H kp s.kept
  ne : kp ≠ C
  ex : (H C = some (.lst []) ∧ s.hs = []) ∨ ∃ (rs0 : List Addr) (r : Addr) (hs0 : List Hunk) (h : Hunk) (b o n q : Addr), H C = some (.lst ((rs0 ++ [r]).map V.ref)) ∧ s.hs = hs0 ++ [h] ∧ AllAt (HA A (fun y => y = C ∨ y = kp ∨ y = o ∨ y = n ∨ y = q) H) rs0 hs0 ∧ LastC A H0 C kp H r h b o n q
theorem ch_len : ∀ (p : Patch) (s : ChS), (p.foldl chStep s).hs.length ≤ s.hs.length + p.length ∧ (p.foldl chStep s).kept.length ≤ s.kept.length + p.length ∧ (p.foldl chStep s).n ≤ s.n + p.length
  | [], s => ⟨Nat.le_refl _, Nat.le_refl _, Nat.le_refl _⟩
  | o :: p, s => by
    have ih := ch_len p (chStep s o)
    have e : ∀ f, ∀ l : List Hunk, (onLast f l).length ≤ l.length := fun f l => by
      rcases List.eq_nil_or_concat l with z | ⟨a, b, z⟩
      · subst z; exact Nat.le_refl _
      · rw [z, List.concat_eq_append, onLast_snoc]; simp
    have e2 : (opened s.hs s.kept s.n).length ≤ s.hs.length + 1 := by
      unfold opened
      split <;> simp
    have h : (chStep s o).hs.length ≤ s.hs.length + 1 ∧ (chStep s o).kept.length ≤ s.kept.length + 1 ∧ (chStep s o).n ≤ s.n + 1 := by
      cases o with
      | keep x =>
        refine ⟨?_, by simp [chStep], Nat.le_refl _⟩
        show List.length (if _ then _ else _) ≤ _
        split
        · exact Nat.le_trans (e _ _) (Nat.le_succ _)
        · exact Nat.le_succ _
      | drop x => exact ⟨Nat.le_trans (e _ _) e2, Nat.zero_le _, Nat.le_refl _⟩
      | put x => exact ⟨Nat.le_trans (e _ _) e2, Nat.zero_le _, Nat.le_succ _⟩
    rw [List.foldl_cons, List.length_cons]
    omega
/-- the lists of a change are no longer than the patch -/
structure HSmall (m : Nat) (h : Hunk) : Prop where
  a : h.ahead.length ≤ m
  o : h.old.length ≤ m
  n : h.new.length ≤ m
  r : h.rest.length ≤ m
def chAt (p : Patch) (i : Nat) : ChS := (p.take i).foldl chStep ch0
theorem chAt_more {p : Patch} {i : Nat} {o : Op} (h : p[i]? = some o) : chAt p (i + 1) = chStep (chAt p i) o := by
  unfold chAt
  rw [take_more h, List.foldl_append]; rfl
theorem small_last {m : Nat} {f : Hunk → Hunk} {l : List Hunk} (hl : ∀ h ∈ l, HSmall m h) (hf : ∀ h, HSmall m h → HSmall (m + 1) (f h)) : ∀ h ∈ onLast f l, HSmall (m + 1) h := by
  have up : ∀ h, HSmall m h → HSmall (m + 1) h := fun h k => ⟨Nat.le_succ_of_le k.a, Nat.le_succ_of_le k.o, Nat.le_succ_of_le k.n, Nat.le_succ_of_le k.r⟩
  rcases List.eq_nil_or_concat l with z | ⟨a, b, z⟩
  · subst z; intro h hh; cases hh
  · rw [z, List.concat_eq_append] at hl ⊢
    rw [onLast_snoc]
    intro h hh
    rcases List.mem_append.mp hh with q | q
    · exact up h (hl h (List.mem_append_left _ q))
    · rw [List.mem_singleton.mp q]
      exact hf b (hl b (by simp))
theorem chAt_small (p : Patch) : ∀ i, i ≤ p.length → ∀ h ∈ (chAt p i).hs, HSmall i h
  | 0, _, h, hh => by cases hh
  | i + 1, hi, h, hh => by
    obtain ⟨o, ho⟩ := get_of_lt (l := p) (i := i) hi
    have ih := chAt_small p i (by omega)
    have kl := (ch_len (p.take i) ch0).2.1
    rw [List.length_take, Nat.min_eq_left (by omega)] at kl
    have kl : (chAt p i).kept.length ≤ i := by have : ch0.kept.length = 0 := rfl; unfold chAt; omega
    rw [chAt_more ho] at hh
    have up : ∀ h, HSmall i h → HSmall (i + 1) h := fun h k => ⟨Nat.le_succ_of_le k.a, Nat.le_succ_of_le k.o, Nat.le_succ_of_le k.n, Nat.le_succ_of_le k.r⟩
    have op : ∀ h ∈ opened (chAt p i).hs (chAt p i).kept (chAt p i).n, HSmall i h := fun h hh => by
      unfold opened at hh
      split at hh
      · rcases List.mem_append.mp hh with q | q
        · exact ih h q
        · rw [List.mem_singleton.mp q]
          refine ⟨?_, Nat.zero_le _, Nat.zero_le _, Nat.zero_le _⟩
          show (List.drop _ _).length ≤ _
          rw [List.length_drop]
          omega
      · exact ih h hh
    cases o with
    | keep x =>
      have hh : h ∈ (if (chAt p i).hs ≠ [] ∧ (chAt p i).kept.length < 2 then onLast (moreRest x) (chAt p i).hs else (chAt p i).hs) := hh
      split at hh
      · refine small_last (f := moreRest x) ih (fun h k => ⟨Nat.le_succ_of_le k.a, Nat.le_succ_of_le k.o, Nat.le_succ_of_le k.n, ?_⟩) h hh
        show (_ ++ [x]).length ≤ _
        rw [List.length_append]; exact Nat.add_le_add_right k.r 1
      · exact up h (ih h hh)
    | drop x =>
      refine small_last (f := moreOld x) op (fun h k => ⟨Nat.le_succ_of_le k.a, ?_, Nat.le_succ_of_le k.n, Nat.le_succ_of_le k.r⟩) h hh
      show (_ ++ [x]).length ≤ _
      rw [List.length_append]; exact Nat.add_le_add_right k.o 1
    | put x =>
      refine small_last (f := moreNew x) op (fun h k => ⟨Nat.le_succ_of_le k.a, Nat.le_succ_of_le k.o, ?_, Nat.le_succ_of_le k.r⟩) h hh
      show (_ ++ [x]).length ≤ _
      rw [List.length_append]; exact Nat.add_le_add_right k.n 1
theorem cutV_m2 (xs : List V) : cutV xs (some (-2)) none = xs.drop (xs.length - 2) := by
  unfold cutV
  have e : HT.sIx xs.length 0 (some (-2)) = xs.length - 2 := by
    show (if (-2 : Int) < 0 then ((-2 : Int) + (xs.length : Int)).toNat else min (-2 : Int).toNat xs.length) = _
    rw [if_pos (by decide)]; omega
  show (xs.drop (HT.sIx xs.length 0 (some (-2)))).take (xs.length - HT.sIx xs.length 0 (some (-2))) = _
  rw [e]
  exact List.take_of_length_le (by simp)
section
variable {C kp : Addr} {H0 H H' : Hp} {s : ChS} {rs0 : List Addr} {r b o n q : Addr} {hs0 : List Hunk} {h : Hunk} {x : Line}
theorem LastC.nes (l : LastC A H0 C kp H r h b o n q) : (C ≠ kp ∧ C ≠ b ∧ C ≠ o ∧ C ≠ n ∧ C ≠ q) ∧ (kp ≠ b ∧ kp ≠ o ∧ kp ≠ n ∧ kp ≠ q) ∧ (b ≠ o ∧ b ≠ n ∧ b ≠ q) ∧ (o ≠ n ∧ o ≠ q) ∧ n ≠ q := by
  have nd := l.nd
  simp at nd
  exact nd
abbrev avL (C kp o n q : Addr) : Addr → Prop := fun y => y = C ∨ y = kp ∨ y = o ∨ y = n ∨ y = q
theorem ChI.last (I : ChI A H0 C kp H s) (ne : s.hs ≠ []) : ∃ (rs0 : List Addr) (r : Addr) (hs0 : List Hunk) (h : Hunk) (b o n q : Addr), H C = some (.lst ((rs0 ++ [r]).map V.ref)) ∧ s.hs = hs0 ++ [h] ∧ AllAt (HA A (avL C kp o n q) H) rs0 hs0 ∧ LastC A H0 C kp H r h b o n q := by
  rcases I.ex with ⟨h1, h2⟩ | z
  · exact absurd h2 ne
  · exact z
theorem ChI.same (I : ChI A H0 C kp H s) (e : Same H H') : ChI A H0 C kp H' s := by
  refine ⟨e kp _ I.kp_, I.ne, ?_⟩
  rcases I.ex with ⟨h1, h2⟩ | ⟨rs0, r, hs0, h, b, o, n, q, h1, h2, h3, l⟩
  · exact .inl ⟨e C _ h1, h2⟩
  · obtain ⟨dx, hi⟩ := l.ins
    exact .inr ⟨rs0, r, hs0, h, b, o, n, q, e C _ h1, h2, h3.mono fun _ _ _ _ k => k.same e, ⟨⟨dx, e r _ hi⟩, e b _ l.b_, e o _ l.o_, e n _ l.n_, e q _ l.q_, l.nd, l.fr⟩⟩
/-- the kept lines change -/
theorem ChI.kept (I : ChI A H0 C kp H s) (k2 : Text) (m : Nat) : ChI A H0 C kp (L2.upd H kp (.lst (k2.map sV))) ⟨s.hs, k2, m⟩ := by
  refine ⟨upd_same, I.ne, ?_⟩
  rcases I.ex with ⟨h1, h2⟩ | ⟨rs0, r, hs0, h, b, o, n, q, h1, h2, h3, l⟩
  · exact .inl ⟨(upd_ne I.ne.symm).trans h1, h2⟩
  · obtain ⟨dx, hi⟩ := l.ins
    obtain ⟨_, ⟨k1, k2', k3, k4⟩, _⟩ := l.nes
    exact .inr ⟨rs0, r, hs0, h, b, o, n, q, (upd_ne I.ne.symm).trans h1, h2, h3.mono fun _ _ _ _ k => k.upd (.inr (.inl rfl)) I.kp_, ⟨⟨dx, (upd_ne (ne_of hi I.kp_ (by intro z; cases z))).trans hi⟩, (upd_ne k1.symm).trans l.b_, (upd_ne k2'.symm).trans l.o_, (upd_ne k3.symm).trans l.n_, (upd_ne k4.symm).trans l.q_, l.nd, l.fr⟩⟩
/-- a line more behind, taken out, put in -/
theorem chI_rest {kept : Text} {m : Nat} (hk : LnAt H kp kept) (hC : H C = some (.lst ((rs0 ++ [r]).map V.ref))) (all : AllAt (HA A (avL C kp o n q) H) rs0 hs0) (l : LastC A H0 C kp H r h b o n q) (e : SameX q H H') (hq : LnAt H' q (h.rest ++ [x])) : ChI A H0 C kp H' ⟨hs0 ++ [moreRest x h], kept, m⟩ := by
  obtain ⟨⟨c1, c2, c3, c4, c5⟩, ⟨k1, k2, k3, k4⟩, ⟨b1, b2, b3⟩, ⟨o1, o2⟩, n1⟩ := l.nes
  obtain ⟨dx, hi⟩ := l.ins
  exact ⟨e kp _ k4 hk, c1.symm, .inr ⟨rs0, r, hs0, moreRest x h, b, o, n, q, e C _ c5 hC, rfl, all.mono fun _ _ _ _ k => k.sameX (.inr (.inr (.inr (.inr rfl)))) l.q_ e, ⟨⟨dx, e r _ (ne_of hi l.q_ (by intro z; cases z)) hi⟩, e b _ b3 l.b_, e o _ o2 l.o_, e n _ n1 l.n_, hq, l.nd, l.fr⟩⟩⟩
theorem chI_old {kept : Text} {m : Nat} (hk : LnAt H kp kept) (hC : H C = some (.lst ((rs0 ++ [r]).map V.ref))) (all : AllAt (HA A (avL C kp o n q) H) rs0 hs0) (l : LastC A H0 C kp H r h b o n q) : ChI A H0 C kp (L2.upd H o (.lst ((h.old ++ [x]).map sV))) ⟨hs0 ++ [moreOld x h], kept, m⟩ := by
  obtain ⟨⟨c1, c2, c3, c4, c5⟩, ⟨k1, k2, k3, k4⟩, ⟨b1, b2, b3⟩, ⟨o1, o2⟩, n1⟩ := l.nes
  obtain ⟨dx, hi⟩ := l.ins
  exact ⟨(upd_ne k2).trans hk, c1.symm, .inr ⟨rs0, r, hs0, moreOld x h, b, o, n, q, (upd_ne c3).trans hC, rfl, all.mono fun _ _ _ _ k => k.upd (.inr (.inr (.inl rfl))) l.o_, ⟨⟨dx, (upd_ne (ne_of hi l.o_ (by intro z; cases z))).trans hi⟩, (upd_ne b1).trans l.b_, upd_same, (upd_ne o1.symm).trans l.n_, (upd_ne o2.symm).trans l.q_, l.nd, l.fr⟩⟩⟩
theorem chI_put {kept : Text} {m : Nat} (hk : LnAt H kp kept) (hC : H C = some (.lst ((rs0 ++ [r]).map V.ref))) (all : AllAt (HA A (avL C kp o n q) H) rs0 hs0) (l : LastC A H0 C kp H r h b o n q) : ChI A H0 C kp (L2.upd H n (.lst ((h.new ++ [x]).map sV))) ⟨hs0 ++ [moreNew x h], kept, m⟩ := by
  obtain ⟨⟨c1, c2, c3, c4, c5⟩, ⟨k1, k2, k3, k4⟩, ⟨b1, b2, b3⟩, ⟨o1, o2⟩, n1⟩ := l.nes
  obtain ⟨dx, hi⟩ := l.ins
  exact ⟨(upd_ne k3).trans hk, c1.symm, .inr ⟨rs0, r, hs0, moreNew x h, b, o, n, q, (upd_ne c4).trans hC, rfl, all.mono fun _ _ _ _ k => k.upd (.inr (.inr (.inr (.inl rfl)))) l.n_, ⟨⟨dx, (upd_ne (ne_of hi l.n_ (by intro z; cases z))).trans hi⟩, (upd_ne b2).trans l.b_, (upd_ne o1).trans l.o_, upd_same, (upd_ne n1.symm).trans l.q_, l.nd, l.fr⟩⟩⟩
/-- a new change stands at the end -/
theorem chI_open {hs : List Hunk} {rs : List Addr} {c dx : Addr} {H2 : Hp} {kept2 kept : Text} {m : Nat} {place : Nat} {acc : List V} (hC0 : H C = some (.lst acc)) (all : AllAt (HA A (fun y => y = C) H) rs hs) (hC : H2 C = some (.lst ((rs ++ [c]).map V.ref))) (e : SameX C H H2) (hc : H2 c = some (.ins A.ch dx (chF (place : Int) b o n q))) (hb : LnAt H2 b kept2)
    (ho : LnAt H2 o []) (hn : LnAt H2 n []) (hq : LnAt H2 q []) (hk : LnAt H2 kp kept) (f1 : H kp = none) (f2 : H o = none) (f3 : H n = none) (f4 : H q = none) (nd : [C, kp, b, o, n, q].Nodup) (fr : H0 o = none ∧ H0 n = none ∧ H0 q = none) : ChI A H0 C kp H2 ⟨hs ++ [⟨place, kept2, [], [], []⟩], kept, m⟩ := by
  have l : LastC A H0 C kp H2 c ⟨place, kept2, [], [], []⟩ b o n q := ⟨⟨dx, hc⟩, hb, ho, hn, hq, nd, fr⟩
  refine ⟨hk, l.nes.1.1.symm, .inr ⟨rs, c, hs, _, b, o, n, q, hC, rfl, all.mono fun _ _ _ _ k => ?_, l⟩⟩
  obtain ⟨d, b', o', n', q', h0, h1, h2, h3, h4, n1, n2, n3, n4⟩ := k
  have cc : H2 C = some (.lst ((rs ++ [c]).map V.ref)) := hC
  have far : ∀ {a : Addr} {u : HO}, H a = some u → ¬ a = C → ¬ avL C kp o n q a := fun {a u} z nc y => by
    rcases y with y | y | y | y | y
    · exact nc y
    · rw [y, f1] at z; cases z
    · rw [y, f2] at z; cases z
    · rw [y, f3] at z; cases z
    · rw [y, f4] at z; cases z
  exact ⟨d, b', o', n', q', e _ _ (ne_of h0 hC0 (by intro z; cases z)) h0, e _ _ n1 h1, e _ _ n2 h2, e _ _ n3 h3, e _ _ n4 h4, far h1 n1, far h2 n2, far h3 n3, far h4 n4⟩
end
def HunksAt (A : Ad) (H : Hp) (D : Addr) (hs : List Hunk) : Prop := ∃ rs : List Addr, H D = some (.lst (rs.map V.ref)) ∧ AllAt (HA A (fun _ => False) H) rs hs
theorem ChI.at_ {C kp : Addr} {H0 H : Hp} {s : ChS} (I : ChI A H0 C kp H s) : ∃ rs : List Addr, H C = some (.lst (rs.map V.ref)) ∧ rs.length = s.hs.length := by
  rcases I.ex with ⟨h1, h2⟩ | ⟨rs0, r, hs0, h, b, o, n, q, h1, h2, h3, _⟩
  · exact ⟨[], h1, by rw [h2]; rfl⟩
  · exact ⟨_, h1, by rw [h2, List.length_append, List.length_append, h3.len]; rfl⟩
theorem ChI.all {C kp : Addr} {H0 H : Hp} {s : ChS} (I : ChI A H0 C kp H s) : HunksAt A H C s.hs := by
  rcases I.ex with ⟨h1, h2⟩ | ⟨rs0, r, hs0, h, b, o, n, q, h1, h2, h3, l⟩
  · exact ⟨[], h1, by rw [h2]; exact .nil⟩
  · obtain ⟨dx, hi⟩ := l.ins
    refine ⟨_, h1, ?_⟩
    rw [h2]
    exact (h3.mono fun r m _ _ k => k.av fun _ _ _ _ z => z).snoc ⟨dx, b, o, n, q, hi, l.b_, l.o_, l.n_, l.q_, id, id, id, id⟩
theorem opened_small {m : Nat} {hs : List Hunk} {kept : Text} {n : Nat} (sm : ∀ h ∈ hs, HSmall m h) (kl : kept.length ≤ m) : ∀ h ∈ opened hs kept n, HSmall m h := fun h hh => by
  unfold opened at hh
  split at hh
  · rcases List.mem_append.mp hh with q | q
    · exact sm h q
    · rw [List.mem_singleton.mp q]
      refine ⟨?_, Nat.zero_le _, Nat.zero_le _, Nat.zero_le _⟩
      show (List.drop _ _).length ≤ _
      rw [List.length_drop]
      omega
  · exact sm h hh
theorem open_ok {C kp b c dx o n q k2 : Addr} {H Hc H3 : Hp} {st : ChS} {rs : List Addr} (I : ChI A H C kp Hc st) (e : Same H Hc) (hC0 : H C = none) (op : st.hs = [] ∨ st.kept ≠ []) (hC : Hc C = some (.lst (rs.map V.ref))) (hb : Hc b = none)
    (hc : L2.upd Hc b (.lst ((lastTwo st.kept).map sV)) c = none) (hdx : L2.upd Hc b (.lst ((lastTwo st.kept).map sV)) dx = none) (ne : dx ≠ c)
    (sx : SameX c (L2.upd (L2.upd (L2.upd Hc b (.lst ((lastTwo st.kept).map sV))) dx (.own c)) c (.ins A.ch dx [])) H3) (hcc : H3 c = some (.ins A.ch dx (chF (st.n : Int) b o n q))) (ho : H3 o = some (.lst [])) (hn : H3 n = some (.lst [])) (hq : H3 q = some (.lst []))
    (fo : (L2.upd (L2.upd (L2.upd Hc b (.lst ((lastTwo st.kept).map sV))) dx (.own c)) c (.ins A.ch dx [])) o = none) (fn : (L2.upd (L2.upd (L2.upd Hc b (.lst ((lastTwo st.kept).map sV))) dx (.own c)) c (.ins A.ch dx [])) n = none) (fq : (L2.upd (L2.upd (L2.upd Hc b (.lst ((lastTwo st.kept).map sV))) dx (.own c)) c (.ins A.ch dx [])) q = none)
    (on : o ≠ n) (oq : o ≠ q) (nq : n ≠ q) (hk2 : L2.upd H3 C (.lst (rs.map V.ref ++ [.ref c])) k2 = none) :
    Same H (L2.upd (L2.upd H3 C (.lst (rs.map V.ref ++ [.ref c]))) k2 (.lst [])) ∧ H k2 = none ∧ ChI A H C k2 (L2.upd (L2.upd H3 C (.lst (rs.map V.ref ++ [.ref c]))) k2 (.lst [])) ⟨opened st.hs st.kept st.n, [], st.n⟩ := by
  have cb : c ≠ b := fun z => by rw [z, upd_same] at hc; cases hc
  have db : dx ≠ b := fun z => by rw [z, upd_same] at hdx; cases hdx
  rw [upd_ne cb] at hc
  rw [upd_ne db] at hdx
  have low : ∀ {a : Addr}, (L2.upd (L2.upd (L2.upd Hc b (.lst ((lastTwo st.kept).map sV))) dx (.own c)) c (.ins A.ch dx [])) a = none → Hc a = none ∧ a ≠ b ∧ a ≠ c := fun {a} z => by
    have ac : a ≠ c := fun y => by rw [y, upd_same] at z; cases z
    rw [upd_ne ac] at z
    have ad : a ≠ dx := fun y => by rw [y, upd_same] at z; cases z
    rw [upd_ne ad] at z
    have ab : a ≠ b := fun y => by rw [y, upd_same] at z; cases z
    rw [upd_ne ab] at z
    exact ⟨z, ab, ac⟩
  obtain ⟨o0, ob, oc⟩ := low fo
  obtain ⟨n0, nb, nc⟩ := low fn
  obtain ⟨q0, qb, qc⟩ := low fq
  have h3 : ∀ a u, Hc a = some u → H3 a = some u := fun a u z => by
    have ac := ne_of_none z hc
    exact sx a u ac (by rw [upd_ne ac, upd_ne (ne_of_none z hdx), upd_ne (ne_of_none z hb)]; exact z)
  have b3 : H3 b = some (.lst ((lastTwo st.kept).map sV)) := sx b _ cb.symm (by rw [upd_ne cb.symm, upd_ne db.symm, upd_same])
  have kC : k2 ≠ C := fun z => by rw [z, upd_same] at hk2; cases hk2
  rw [upd_ne kC] at hk2
  have kc0 : Hc k2 = none := by
    cases z : Hc k2 with
    | none => rfl
    | some u => rw [h3 k2 u z] at hk2; cases hk2
  have ne3 : ∀ {a : Addr} {u : HO}, H3 a = some u → a ≠ k2 := fun z => ne_of_none z hk2
  have Co : o ≠ C := fun z => by rw [z, hC] at o0; cases o0
  have Cn : n ≠ C := fun z => by rw [z, hC] at n0; cases n0
  have Cq : q ≠ C := fun z => by rw [z, hC] at q0; cases q0
  have Cb : b ≠ C := fun z => by rw [z, hC] at hb; cases hb
  have Cc : c ≠ C := fun z => by rw [z, hC] at hc; cases hc
  have put : ∀ {a : Addr} {u : HO}, a ≠ C → H3 a = some u → (L2.upd (L2.upd H3 C (.lst (rs.map V.ref ++ [.ref c]))) k2 (.lst [])) a = some u := fun ac z => by rw [upd_ne (ne3 z), upd_ne ac]; exact z
  have sX : SameX C Hc (L2.upd (L2.upd H3 C (.lst (rs.map V.ref ++ [.ref c]))) k2 (.lst [])) := fun a u ac z => put ac (h3 a u z)
  refine ⟨fun a u z => sX a u (fun y => by rw [y, hC0] at z; cases z) (e a u z), none_back e kc0, ?_⟩
  have all : AllAt (HA A (fun y => y = C) Hc) rs st.hs := by
    rcases I.ex with ⟨h1, h2⟩ | ⟨rs0, r, hs0, h, b', o', n', q', h1, h2, h3, l⟩
    · rw [hC] at h1
      have : rs = [] := by
        have z : rs.map V.ref = [] := HO.lst.inj (Option.some.inj h1)
        exact List.map_eq_nil_iff.mp z
      rw [this, h2]; exact .nil
    · rw [hC] at h1
      have er := (List.map_inj_right (f := V.ref) fun _ _ z => V.ref.inj z).mp (HO.lst.inj (Option.some.inj h1))
      obtain ⟨dx, hi⟩ := l.ins
      obtain ⟨⟨c1, c2, c3, c4, c5⟩, _⟩ := l.nes
      rw [er, h2]
      exact (h3.mono fun r m _ _ k => k.av fun a u _ na z => na (.inl z)).snoc ⟨dx, b', o', n', q', hi, l.b_, l.o_, l.n_, l.q_, c2.symm, c3.symm, c4.symm, c5.symm⟩
  have oe : opened st.hs st.kept st.n = st.hs ++ [⟨st.n, lastTwo st.kept, [], [], []⟩] := by
    unfold opened
    rw [if_pos op]
  rw [oe]
  refine chI_open (dx := dx) (c := c) (b := b) (o := o) (n := n) (q := q) hC all ?_ sX (put Cc hcc) (put Cb b3) (put Co ho) (put Cn hn) (put Cq hq) upd_same kc0 o0 n0 q0 ?_ ⟨none_back e o0, none_back e n0, none_back e q0⟩
  · rw [upd_ne kC.symm, upd_same, List.map_append]; rfl
  · have b2 := ne3 b3
    have o2 := ne3 ho
    have n2 := ne3 hn
    have q2 := ne3 hq
    simp [kC.symm, Cb.symm, Co.symm, Cn.symm, Cq.symm, b2.symm, o2.symm, n2.symm, q2.symm, ob.symm, nb.symm, qb.symm, on, oq, nq]
theorem add_ok {C kp r : Addr} {H H2 : Hp} {st : ChS} {op : Op} {rs1 : List Addr} {hs0 : List Hunk} {h : Hunk} {b o n q : Addr} {Q : VK} {E : XK} (nk : ¬ kind op = 0) (I : ChI A H C kp H2 ⟨opened st.hs st.kept st.n, [], st.n⟩) (e : Same H H2)
    (g1 : H2 C = some (.lst ((rs1 ++ [r]).map V.ref))) (g2 : opened st.hs st.kept st.n = hs0 ++ [h]) (g3 : AllAt (HA A (avL C kp o n q) H2) rs1 hs0) (g4 : LastC A H C kp H2 r h b o n q) (l1 : h.old.length ≤ 1000) (l2 : h.new.length ≤ 1000)
    (fin : ∀ H3, Same H H3 → ChI A H C kp H3 (chStep st op) → Q .non H3) : spAddTo A [.ref r, .int (kind op), sV (lineIn op)] H2 Q E := by
  obtain ⟨dx, hi⟩ := g4.ins
  refine ⟨r, dx, _, b, o, n, q, kind op, lineIn op, h.old, h.new, rfl, hi, g4.o_, g4.n_, l1, l2, fun k => ?_, fun k => ?_⟩
  · obtain ⟨x, rfl⟩ := kind1.mp k
    refine fin _ (fun a u z => by rw [upd_ne (ne_of_none z g4.fr.1)]; exact e a u z) ?_
    have := chI_old (x := x) (m := st.n + 1) I.kp_ g1 g3 g4
    show ChI A H C kp _ ⟨onLast (moreOld x) (opened st.hs st.kept st.n), [], st.n + 1⟩
    rw [g2, onLast_snoc]
    exact this
  · have : ∃ x, op = .put x := by
      cases op with
      | keep x => exact absurd rfl nk
      | drop x => exact absurd rfl k
      | put x => exact ⟨x, rfl⟩
    obtain ⟨x, rfl⟩ := this
    refine fin _ (fun a u z => by rw [upd_ne (ne_of_none z g4.fr.2.1)]; exact e a u z) ?_
    have := chI_put (x := x) (m := st.n) I.kp_ g1 g3 g4
    show ChI A H C kp _ ⟨onLast (moreNew x) (opened st.hs st.kept st.n), [], st.n⟩
    rw [g2, onLast_snoc]
    exact this
def spChanges (A : Ad) : Sp := fun vs H Q _ => ∃ (a : Addr) (p : Patch), vs = [.ref a] ∧ MarksAt H a p ∧ p.length ≤ 900 ∧ New H Q fun H' D => HunksAt A H' D (hunks p)
abbrev N_changes_of : List Str := ["marks", "changes", "kept", "passed", "mark", "line"]
theorem sc_changes_of : FnScope N_changes_of ["marks"] (defScope (top 24)) := ⟨rfl, rfl, rfl, by decide +kernel, rfl, by decide +kernel, by decide +kernel⟩
theorem k_changes_of (T : Txt K mg A) : Ok P w K mg base 3 "changes_of" (spChanges A) := by
  refine ok_mk T.d_changes_of sc_changes_of (fun vs H Q E ⟨_, _, e, _⟩ => by rw [e]; rfl) fun f cdv AA outer s H vs Q E hr tk po h => ⟨_, (pss_cons (ps_set (i := 1) sc_changes_of.nd rfl (Or.inl rfl) (pe_lst pa_nil))
    (pss_cons (ps_set (i := 2) sc_changes_of.nd rfl (Or.inl rfl) (pe_lst pa_nil))
    (pss_cons (ps_set (i := 3) sc_changes_of.nd rfl (Or.inl rfl) pe_int)
    (pss_cons (ps_for po rfl (pi_list (pv 0)) (pg_tup rfl (pgs_cons (pg_name (i := 4) sc_changes_of.nd rfl (Or.inl rfl)) (pgs_cons (pg_name (i := 5) sc_changes_of.nd rfl (Or.inl rfl)) pgs_nil))) (pss_cons (ps_if (pt_cmpR op_eq (pv 4) (pe_gv T.c_KEPT) (nomark _)) (pss_cons (ps_expr (pe_k (k_keep_behind T) hr tk (pa_cons (pv 1) (pa_cons (pv 2) (pa_cons (pv 5) pa_nil)))))
    (pss_one (ps_expr (pe_bm PySem.F.plainAttrs_list PySem.F.slot_list_append PySem.F.type_list_append mt_append (pv 2) (pa_cons (pv 5) pa_nil))))) (pss_cons (ps_if (PW.pt (pw_or (pt_cmpR (op_eqE hr.units) (pv 1) (pe_lst pa_nil) (nomark _)) (pw_or1 (pt_cmpR (op_neE hr.units) (pv 2) (pe_lst pa_nil) (nomark _))))) (pss_cons (ps_expr (pe_bm PySem.F.plainAttrs_list PySem.F.slot_list_append PySem.F.type_list_append mt_append (pv 1) (pa_cons (pe_mk (mk_Change T) hr tk (pa_cons (pv 3) (pa_cons (pe_slice sl_list (pv 2) (po_some (pe_un un_neg (pe_gv T.c_MOST_AROUND))) po_none) pa_nil))) pa_nil)))
    (pss_one (ps_set (i := 2) sc_changes_of.nd rfl (Or.inl rfl) (pe_lst pa_nil)))) pss_nil)
    (pss_one (ps_expr (pe_k (k_add_to T) hr tk (pa_cons (pe_ix ix_list (pv 1) (pe_un un_neg pe_int) (fun _ _ => rfl)) (pa_cons (pv 4) (pa_cons (pv 5) pa_nil))))))))
    (pss_one (ps_if (pt_cmpR op_ne (pv 4) (pe_gv T.c_PUT_IN) (nomark _)) (pss_one (ps_aug (i := 3) sc_changes_of.nd rfl (.inl rfl) pe_int ip_add)) pss_nil))))
    (pss_one (ps_ret (pv 1))))))), ?_⟩
  obtain ⟨a, p, rfl, ⟨rs, h1, h2⟩, hp, q⟩ := h
  have hl : (rs.map V.ref).length = p.length := by rw [List.length_map, h2.len]
  refine ⟨Nat.zero_le _, fun C hC => ?_⟩
  refine ⟨Nat.zero_le _, fun k0 hk0 => ?_⟩
  have e0 := same_trans (same_new (o := .lst []) hC) (same_new (o := .lst []) hk0)
  have kC : k0 ≠ C := fun z => by rw [z, upd_same] at hk0; cases hk0
  refine ⟨_, rfl, a, rfl, ⟨_, SqL.of (e0 a _ h1)⟩, ?_⟩
  refine for_list (K := K) (a := a) (xs := rs.map V.ref) (fun i σ H' => ∃ kp m l, σ = [some (.ref a), some (.ref C), some (.ref kp), some (nV (chAt p i).n), m, l] ∧ Same H H' ∧ H C = none ∧ H kp = none ∧ ChI A H C kp H' (chAt p i)) ?_ ?_ ?_ ?_
  · refine ⟨k0, none, none, rfl, e0, hC, ?_, upd_same, kC, .inl ⟨(upd_ne kC.symm).trans upd_same, rfl⟩⟩
    rw [upd_ne kC] at hk0; exact hk0
  · rintro i σ H' _ ⟨kp, m, l, rfl, e, _⟩
    exact SqL.of (e a _ h1)
  · rintro i x σ H' hx1 ⟨kp, m, l, rfl, e, hC0, hkp, I⟩
    obtain ⟨r, hr', rfl⟩ := map_get hx1
    obtain ⟨op, ho, hro⟩ := h2.get hr'
    have hi := get_lt ho
    have more := chAt_more ho
    have len := ch_len (p.take i) ch0
    rw [List.length_take, Nat.min_eq_left (Nat.le_of_lt hi)] at len
    have len : (chAt p i).hs.length ≤ i ∧ (chAt p i).kept.length ≤ i ∧ (chAt p i).n ≤ i := by
      have z1 : ch0.hs.length = 0 := rfl
      have z2 : ch0.kept.length = 0 := rfl
      have z3 : ch0.n = 0 := rfl
      unfold chAt; omega
    have sm := chAt_small p i (Nat.le_of_lt hi)
    refine ⟨r, _, rfl, SqT.of (e r _ hro), rfl, ?_⟩
    refine ⟨_, _, rfl, _, _, rfl, rfl, ?_⟩
    obtain ⟨cs, hcs, csl⟩ := I.at_
    rw [more]
    generalize chAt p i = st at *
    refine ⟨_, rfl, rfl, _, rfl, if_2 (fun k => ?_) fun k => ?_⟩
    · have kk : ∃ z, op = .keep z := by
        cases op with
        | keep z => exact ⟨z, rfl⟩
        | drop z => cases int_t k
        | put z => cases int_t k
      obtain ⟨z, rfl⟩ := kk
      refine ⟨_, rfl, _, rfl, _, rfl, ?_⟩
      have kl : ∀ {u : Nat}, u ≤ i → u < sizeLine := fun h => sz_lt (by omega)
      refine ⟨C, kp, z, cs, st.kept, rfl, hcs, I.kp_, fun c H1 e1 => ?_, fun c rs0 r' hrs => ?_⟩
      · have I1 := I.same e1
        refine ⟨_, rfl, .inl ⟨rfl, _, SqL.of I1.kp_⟩, ?_⟩
        refine ⟨_, rfl, kp, _, _, rfl, rfl, I1.kp_, kl (by rw [List.length_map]; exact len.2.1), ?_⟩
        have I2 := I1.kept (st.kept ++ [z]) (st.n + 1)
        have he : chStep st (.keep z) = ⟨st.hs, st.kept ++ [z], st.n + 1⟩ := by
          have nn : ¬ (st.hs ≠ [] ∧ st.kept.length < 2) := by
            rintro ⟨n1, n2⟩
            rcases c with c | c
            · apply n1
              have := csl; rw [c] at this
              exact List.eq_nil_of_length_eq_zero this.symm
            · exact c n2
          simp only [chStep, if_neg nn]
        rw [he]
        rw [List.map_append] at I2
        refine ⟨_, rfl, rfl, _, rfl, if_2 (fun k2 => ?_) fun k2 => absurd (nint_f k2) (by show ¬ (0 : Int) = 2; decide)⟩
        refine ⟨_, rfl, _, _, rfl, rfl, ?_⟩
        exact ⟨kp, _, _, rfl, same_upd (same_trans e e1) hkp, hC0, hkp, I2⟩
      · have nh : st.hs ≠ [] := fun z => by
          rw [z, hrs] at csl; simp at csl
        obtain ⟨rs1, r1, hs0, h, b, o, n, q', g1, g2, g3, g4⟩ := I.last nh
        have er : rs0 = rs1 ∧ r' = r1 := by
          rw [hcs] at g1
          have := (List.map_inj_right (f := V.ref) fun _ _ z => V.ref.inj z).mp (HO.lst.inj (Option.some.inj g1))
          rw [hrs] at this
          exact ⟨(List.append_inj' this rfl).1, List.head_eq_of_cons_eq (List.append_inj' this rfl).2⟩
        obtain ⟨rfl, rfl⟩ := er
        obtain ⟨dx, hi'⟩ := g4.ins
        have hq' : H q' = none := g4.fr.2.2
        refine ⟨dx, _, b, o, n, q', h.rest, hi', g4.q_, ?_, fun H1 e1 h1' => ?_⟩
        · have := sm h (by rw [g2]; simp)
          have := this.r
          omega
        · have I1 := chI_rest (m := st.n) I.kp_ g1 g3 g4 e1 h1'
          refine ⟨_, rfl, .inl ⟨rfl, _, SqL.of I1.kp_⟩, ?_⟩
          refine ⟨_, rfl, kp, _, _, rfl, rfl, I1.kp_, kl (by rw [List.length_map]; exact len.2.1), ?_⟩
          have I2 := I1.kept (st.kept ++ [z]) (st.n + 1)
          have he : chStep st (.keep z) = ⟨hs0 ++ [moreRest z h], st.kept ++ [z], st.n + 1⟩ := by
            show ChS.mk (if st.hs ≠ [] ∧ st.kept.length < 2 then onLast (moreRest z) st.hs else st.hs) _ _ = _
            rw [if_pos ⟨nh, c⟩, g2, onLast_snoc]
          rw [he]
          rw [List.map_append] at I2
          refine ⟨_, rfl, rfl, _, rfl, if_2 (fun k2 => ?_) fun k2 => absurd (nint_f k2) (by show ¬ (0 : Int) = 2; decide)⟩
          refine ⟨_, rfl, _, _, rfl, rfl, ?_⟩
          refine ⟨kp, _, _, rfl, same_upd ?_ hkp, hC0, hkp, I2⟩
          exact fun a u z => e1 a u (ne_of_none z hq') (e a u z)
    · have nk := int_f k
      have kl' : ∀ {u : Nat}, u ≤ i → u < sizeLine := fun h => sz_lt (by omega)
      have hn0 : (chStep st op).n = if kind op = 2 then st.n else st.n + 1 := by
        cases op with
        | keep z => exact absurd rfl nk
        | drop z => rfl
        | put z => rfl
      refine ⟨_, rfl, Nat.zero_le _, fun L1 hL1 => ?_⟩
      have e1 := same_new (o := .lst []) hL1
      have I1 := I.same e1
      refine ⟨C, L1, _, rfl, rfl, SqL.of (e1 C _ hcs), SqL.of upd_same, _, rfl, ?_⟩
      have hcE : (cs.map V.ref).isEmpty = decide (st.hs = []) := by
        rw [Bool.eq_iff_iff, decide_eq_true_iff, List.isEmpty_iff]
        constructor
        · intro z
          have : cs.length = 0 := by rw [← List.length_map (f := V.ref), z]; rfl
          exact List.eq_nil_of_length_eq_zero (by omega)
        · intro z
          rw [z] at csl
          have z2 : cs = [] := List.eq_nil_of_length_eq_zero (by simpa using csl)
          rw [z2]; rfl
      rw [hcE]
      by_cases c1 : st.hs = []
      · refine if_t (decide_eq_true c1) ?_
        have hcc := e1 C _ hcs
        have Ic := I1
        have ecl := same_trans e e1
        have opn : st.hs = [] ∨ st.kept ≠ [] := .inl c1
        refine ⟨_, rfl, .inl ⟨rfl, _, SqL.of hcc⟩, ?_⟩
        refine ⟨_, rfl, _, rfl, ?_⟩
        refine ⟨_, rfl, _, rfl, kp, _, rfl, SqL.of Ic.kp_, fun b hb => ?_⟩
        rw [show cutV (st.kept.map sV) (some (-2)) none = (lastTwo st.kept).map sV by rw [cutV_m2, List.length_map, ← List.map_drop]; rfl]
        refine fun c dx hc hdx ne => ⟨c, dx, b, _, rfl, upd_same, fun H3 o n q' sx hcc3 ho3 hn3 hq3 fo fn fq on oq nq => ⟨rfl, ?_⟩⟩
        have c3 : H3 C = some (.lst (cs.map V.ref)) := by
          have z1 : C ≠ b := ne_of_none hcc hb
          have hcC := (upd_ne (o := .lst ((lastTwo st.kept).map sV)) z1).trans hcc
          have z2 := ne_of_none hcC hc
          have z3 := ne_of_none hcC hdx
          exact sx C _ z2 (by rw [upd_ne z2, upd_ne z3]; exact hcC)
        refine ⟨C, _, _, rfl, rfl, c3, kl' (by rw [List.length_map, csl]; exact len.1), ?_⟩
        refine ⟨Nat.zero_le _, fun k2 hk2 => ?_⟩
        obtain ⟨e5, hk2', I3⟩ := open_ok Ic ecl hC0 opn hcc hb hc hdx ne sx hcc3 ho3 hn3 hq3 fo fn fq on oq nq hk2
        have oe : opened st.hs st.kept st.n ≠ [] := by
          unfold opened
          rw [if_pos opn]
          simp
        obtain ⟨rs1, r1, hs0, h, b, o, n, q', g1, g2, g3, g4⟩ := I3.last oe
        have g2 : opened st.hs st.kept st.n = hs0 ++ [h] := g2
        have hsm := opened_small (n := st.n) sm len.2.1 h (by rw [g2]; simp)
        refine ⟨_, rfl, _, rfl, C, _, _, .ref r1, rfl, rfl, SqL.of g1, by rw [List.map_append]; exact atI_last _ _, ?_⟩
        refine ⟨_, rfl, _, rfl, ?_⟩
        dsimp only [tNil]
        refine add_ok nk I3 e5 g1 g2 g3 g4 (Nat.le_trans hsm.o (by omega)) (Nat.le_trans hsm.n (by omega)) fun H3 e3 I4 => ?_
        refine ⟨_, rfl, rfl, _, rfl, if_2 (fun k2 => ?_) fun k2 => ?_⟩
        · refine ⟨_, rfl, _, _, rfl, rfl, ?_⟩
          refine ⟨_, some (.int (kind op)), some (sV (lineIn op)), ?_, e3, hC0, hk2', I4⟩
          rw [hn0, if_neg (nint_t k2)]; rfl
        · refine ⟨_, some (.int (kind op)), some (sV (lineIn op)), ?_, e3, hC0, hk2', I4⟩
          rw [hn0, if_pos (nint_f k2)]; rfl
      · refine if_f (decide_eq_false c1) ?_
        refine ⟨_, rfl, Nat.zero_le _, fun L2 hL2 => ?_⟩
        have e2 := same_trans e1 (same_new (o := .lst []) hL2)
        have I2 := I.same e2
        refine ⟨kp, L2, _, rfl, rfl, SqL.of I2.kp_, SqL.of upd_same, _, rfl, ?_⟩
        by_cases c2 : st.kept = []
        · refine if_f (by rw [c2]; rfl) ?_
          have oe : opened st.hs st.kept st.n = st.hs := by
            unfold opened
            rw [if_neg]
            rintro (z | z)
            · exact c1 z
            · exact z c2
          have es : ChS.mk (opened st.hs st.kept st.n) [] st.n = st := by
            rw [oe]
            obtain ⟨a1, a2, a3⟩ := st
            have c2 : a2 = [] := c2
            rw [c2]
          have I3 := es.symm ▸ I2
          obtain ⟨rs1, r1, hs0, h, b, o, n, q', g1, g2, g3, g4⟩ := I3.last (by rw [oe]; exact c1)
          have g2 : opened st.hs st.kept st.n = hs0 ++ [h] := g2
          have hsm := opened_small (n := st.n) sm len.2.1 h (by rw [g2]; simp)
          refine ⟨_, rfl, _, rfl, C, _, _, .ref r1, rfl, rfl, SqL.of g1, by rw [List.map_append]; exact atI_last _ _, ?_⟩
          refine ⟨_, rfl, _, rfl, ?_⟩
          dsimp only [tNil]
          refine add_ok nk I3 (same_trans e e2) g1 g2 g3 g4 (Nat.le_trans hsm.o (by omega)) (Nat.le_trans hsm.n (by omega)) fun H3 e3 I4 => ?_
          refine ⟨_, rfl, rfl, _, rfl, if_2 (fun k2 => ?_) fun k2 => ?_⟩
          · refine ⟨_, rfl, _, _, rfl, rfl, ?_⟩
            refine ⟨kp, some (.int (kind op)), some (sV (lineIn op)), ?_, e3, hC0, hkp, I4⟩
            rw [hn0, if_neg (nint_t k2)]; rfl
          · refine ⟨kp, some (.int (kind op)), some (sV (lineIn op)), ?_, e3, hC0, hkp, I4⟩
            rw [hn0, if_pos (nint_f k2)]; rfl
        · refine if_t (by cases z : st.kept with | nil => exact absurd z c2 | cons _ _ => rfl) ?_
          have hcc := e2 C _ hcs
          have Ic := I2
          have ecl := same_trans e e2
          have opn : st.hs = [] ∨ st.kept ≠ [] := .inr c2
          refine ⟨_, rfl, .inl ⟨rfl, _, SqL.of hcc⟩, ?_⟩
          refine ⟨_, rfl, _, rfl, ?_⟩
          refine ⟨_, rfl, _, rfl, kp, _, rfl, SqL.of Ic.kp_, fun b hb => ?_⟩
          rw [show cutV (st.kept.map sV) (some (-2)) none = (lastTwo st.kept).map sV by rw [cutV_m2, List.length_map, ← List.map_drop]; rfl]
          refine fun c dx hc hdx ne => ⟨c, dx, b, _, rfl, upd_same, fun H3 o n q' sx hcc3 ho3 hn3 hq3 fo fn fq on oq nq => ⟨rfl, ?_⟩⟩
          have c3 : H3 C = some (.lst (cs.map V.ref)) := by
            have z1 : C ≠ b := ne_of_none hcc hb
            have hcC := (upd_ne (o := .lst ((lastTwo st.kept).map sV)) z1).trans hcc
            have z2 := ne_of_none hcC hc
            have z3 := ne_of_none hcC hdx
            exact sx C _ z2 (by rw [upd_ne z2, upd_ne z3]; exact hcC)
          refine ⟨C, _, _, rfl, rfl, c3, kl' (by rw [List.length_map, csl]; exact len.1), ?_⟩
          refine ⟨Nat.zero_le _, fun k2 hk2 => ?_⟩
          obtain ⟨e5, hk2', I3⟩ := open_ok Ic ecl hC0 opn hcc hb hc hdx ne sx hcc3 ho3 hn3 hq3 fo fn fq on oq nq hk2
          have oe : opened st.hs st.kept st.n ≠ [] := by
            unfold opened
            rw [if_pos opn]
            simp
          obtain ⟨rs1, r1, hs0, h, b, o, n, q', g1, g2, g3, g4⟩ := I3.last oe
          have g2 : opened st.hs st.kept st.n = hs0 ++ [h] := g2
          have hsm := opened_small (n := st.n) sm len.2.1 h (by rw [g2]; simp)
          refine ⟨_, rfl, _, rfl, C, _, _, .ref r1, rfl, rfl, SqL.of g1, by rw [List.map_append]; exact atI_last _ _, ?_⟩
          refine ⟨_, rfl, _, rfl, ?_⟩
          dsimp only [tNil]
          refine add_ok nk I3 e5 g1 g2 g3 g4 (Nat.le_trans hsm.o (by omega)) (Nat.le_trans hsm.n (by omega)) fun H3 e3 I4 => ?_
          refine ⟨_, rfl, rfl, _, rfl, if_2 (fun k2 => ?_) fun k2 => ?_⟩
          · refine ⟨_, rfl, _, _, rfl, rfl, ?_⟩
            refine ⟨_, some (.int (kind op)), some (sV (lineIn op)), ?_, e3, hC0, hk2', I4⟩
            rw [hn0, if_neg (nint_t k2)]; rfl
          · refine ⟨_, some (.int (kind op)), some (sV (lineIn op)), ?_, e3, hC0, hk2', I4⟩
            rw [hn0, if_pos (nint_f k2)]; rfl
  · rintro σ H' ⟨kp, m, l, rfl, e, hC0, hkp, I⟩
    rw [hl] at I
    refine ⟨_, rfl, q H' C e hC0 ?_⟩
    have := I.all
    unfold chAt at this
    rw [List.take_length, ch_hunks] at this
    exact this
end
end Lp
set_option maxRecDepth 100000
set_option maxHeartbeats 2000000
namespace Lp
open PySem PySem.Spec PyProof.Rows L2
open VasedBase (Bytes)
open Vaseda (Line Text)
open Vasedc (Op Patch lineIn Hunk hunks hunkRow)
section
variable {P : Program} {w : World} {K : PySem.W.Frag} {mg : Str → Option Value} {base : Heap} {A : Ad}
theorem HunksAt.same {H H' : Hp} {D : Addr} {hs : List Hunk} (h : HunksAt A H D hs) (e : Same H H') : HunksAt A H' D hs := by
  obtain ⟨rs, h1, h2⟩ := h
  exact ⟨rs, e D _ h1, h2.mono fun _ _ _ _ k => k.same e⟩
def toldH (hs : List Hunk) : List Int := (hs.length : Int) :: hs.flatMap hunkRow
theorem rowH_len : ∀ hs : List Hunk, (hs.flatMap hunkRow).length = 5 * hs.length
  | [] => rfl
  | h :: hs => by
    rw [List.flatMap_cons, List.length_append, rowH_len hs, List.length_cons]
    show 5 + _ = _
    omega
def spToldChanges (A : Ad) : Sp := fun vs H Q _ => ∃ (a : Addr) (hs : List Hunk), vs = [.ref a] ∧ HunksAt A H a hs ∧ hs.length ≤ 1000 ∧ NewL H Q ((toldH hs).map V.int)
abbrev N_told_changes : List Str := ["changes", "told", "change", "lines"]
theorem sc_told_changes : FnScope N_told_changes ["changes"] (defScope (top 27)) := ⟨rfl, rfl, rfl, by decide +kernel, rfl, by decide +kernel, by decide +kernel⟩
theorem k_told_changes (T : Txt K mg A) : Ok P w K mg base 1 "told_changes" (spToldChanges A) := by
  refine ok_mk T.d_told_changes sc_told_changes (fun vs H Q E ⟨_, _, e, _⟩ => by rw [e]; rfl) fun f cdv AA outer s H vs Q E hr tk po h => ⟨_, (pss_cons (ps_set (i := 1) sc_told_changes.nd rfl (Or.inl rfl) (pe_lst (pa_cons (pe_len T.b_len (pv 0)) pa_nil)))
    (pss_cons (ps_for po rfl (pi_list (pv 0)) (pg_name (i := 2) sc_told_changes.nd rfl (Or.inl rfl)) (pss_cons (ps_expr (pe_bm PySem.F.plainAttrs_list PySem.F.slot_list_append PySem.F.type_list_append mt_append (pv 1) (pa_cons (pe_fld (pv 2) rfl) pa_nil)))
    (pss_one (ps_expr (pe_bm PySem.F.plainAttrs_list PySem.F.slot_list_extend PySem.F.type_list_extend mt_extend (pv 1) (pa_cons (pe_lc (own := [("lines", 3)]) (g := gName 3) rfl sc_told_changes.nd (pi_tup (pe_tup (pa_cons (pe_fld (pv 2) rfl) (pa_cons (pe_fld (pv 2) rfl) (pa_cons (pe_fld (pv 2) rfl) (pa_cons (pe_fld (pv 2) rfl) pa_nil)))))) (blkOk_by (own := [("lines", 3)]) (N := N_told_changes) (sc := defScope (top 27)) (by decide +kernel)) (fun _ _ _ _ _ => pg_name (i := 3) sc_told_changes.nd rfl (Or.inl rfl)) (fun _ _ _ _ _ => pts_nil) (fun _ _ _ _ _ => (pe_lenK (K := K) rfl T.b_len (pv 3)))) pa_nil))))))
    (pss_one (ps_ret (pv 1))))), ?_⟩
  obtain ⟨a, hs, rfl, ⟨rs, h1, h2⟩, hp, q⟩ := h
  have hl : (rs.map V.ref).length = hs.length := by rw [List.length_map, h2.len]
  refine ⟨_, rfl, a, _, rfl, SqL.of h1, ?_⟩
  rw [hl]
  refine ⟨sz1, fun D hD => ?_⟩
  refine ⟨_, rfl, a, rfl, ⟨_, SqL.of (same_new hD a _ h1)⟩, ?_⟩
  refine for_list (K := K) (a := a) (xs := rs.map V.ref) (fun i σ H' => ∃ c l, σ = [some (.ref a), some (.ref D), c, l] ∧ CInv H D (((hs.length : Int) :: (hs.take i).flatMap hunkRow).map V.int) H') ?_ ?_ ?_ ?_
  · exact ⟨none, none, rfl, upd_same, same_new hD⟩
  · rintro i σ H' _ ⟨c, l, rfl, pv⟩
    exact SqL.of (pv.2 a _ h1)
  · rintro i x σ H' hx ⟨c0, l0, rfl, pv⟩
    obtain ⟨c, hc, rfl⟩ := map_get hx
    obtain ⟨h, hh, k⟩ := h2.get hc
    have hi := get_lt hh
    obtain ⟨dx, b, o, n, r, g0, g1, g2, g3, g4, _⟩ := k.same pv.2
    have ll : (((hs.length : Int) :: (hs.take i).flatMap hunkRow).map V.int).length = 1 + 5 * i := by
      rw [List.length_map, List.length_cons, rowH_len, List.length_take, Nat.min_eq_left (Nat.le_of_lt hi)]; omega
    refine ⟨_, rfl, .inl ⟨rfl, _, SqL.of pv.1⟩, ?_⟩
    refine ⟨_, rfl, c, _, dx, _, _, rfl, g0, T.q_Change.cl, T.q_Change.no _ (by decide), rfl, ?_⟩
    refine ⟨D, _, _, rfl, rfl, pv.1, sz_lt (by rw [ll]; omega), ?_⟩
    have pv1 := pv.more (none_back (Same.refl _) hD) (acc' := ((hs.length : Int) :: (hs.take i).flatMap hunkRow).map V.int ++ [.int (h.at_ : Int)]) (Same.refl _) rfl
    obtain ⟨dx, b, o, n, r, g0, g1, g2, g3, g4, _⟩ := ((h2.at_ i c h hc hh).same pv1.2)
    refine ⟨_, rfl, .inl ⟨rfl, _, SqL.of pv1.1⟩, ?_⟩
    refine ⟨_, rfl, c, _, dx, _, _, rfl, g0, T.q_Change.cl, T.q_Change.no _ (by decide), rfl, ?_⟩
    refine ⟨_, rfl, c, _, dx, _, _, rfl, g0, T.q_Change.cl, T.q_Change.no _ (by decide), rfl, ?_⟩
    refine ⟨_, rfl, c, _, dx, _, _, rfl, g0, T.q_Change.cl, T.q_Change.no _ (by decide), rfl, ?_⟩
    refine ⟨_, rfl, c, _, dx, _, _, rfl, g0, T.q_Change.cl, T.q_Change.no _ (by decide), rfl, ?_⟩
    refine ⟨show 4 ≤ sizeLine by decide, fun t ht => ?_⟩
    refine ⟨t, rfl, ⟨_, SqT.of upd_same⟩, fun M hM => ?_⟩
    have al : ∀ {H1 : Hp}, Same (upd H' D (.lst (((hs.length : Int) :: (hs.take i).flatMap hunkRow).map V.int ++ [.int (h.at_ : Int)]))) H1 → AllAt (fun r t => LnAt H1 r t) [b, o, n, r] [h.ahead, h.old, h.new, h.rest] := fun e => ((((AllAt.nil.snoc (e b _ g1)).snoc (e o _ g2)).snoc (e n _ g3)).snoc (e r _ g4))
    refine lc_tup (K := K) (a := t) (xs := [b, o, n, r].map V.ref) (fun j H1 => Same (upd (upd H' D (.lst (((hs.length : Int) :: (hs.take i).flatMap hunkRow).map V.int ++ [.int (h.at_ : Int)]))) t (.tup [.ref b, .ref o, .ref n, .ref r])) H1 ∧ H1 M = some (.lst ((([h.ahead, h.old, h.new, h.rest].take j).map (·.length)).map nV))) ⟨same_new hM, upd_same⟩ (fun j H1 _ z => SqT.of (z.1 t _ upd_same)) (fun j x H1 hx z => ?_) (fun H1 z => ?_)
    · obtain ⟨y, hy, rfl⟩ := map_get hx
      obtain ⟨tt, htt, ht2⟩ := (al (same_trans (same_new ht) z.1)).get hy
      refine ⟨rfl, ?_⟩
      refine ⟨_, rfl, y, _, rfl, SqL.of ht2, ?_⟩
      refine ⟨_, z.2, ?_, same_upd z.1 hM, ?_⟩
      · rw [List.length_map, List.length_map, List.length_take]
        exact sz_lt (Nat.lt_of_le_of_lt (Nat.min_le_right _ _) (show 4 < 100000 by decide))
      · rw [upd_same, take_more htt, List.map_append, List.map_append, List.length_map]; rfl
    · refine ⟨D, M, _, _, rfl, rfl, z.1 D _ ((upd_ne (ne_of_none upd_same ht)).trans upd_same), z.2, ?_, _, _, rfl, ?_⟩
      · rw [List.length_append, ll]
        show 1 + 5 * i + 1 + 4 ≤ _
        exact sz_of (by omega)
      · refine pv1.more hD (same_trans (same_new ht) z.1) ?_
        rw [take_more hh, List.flatMap_append]
        simp [hunkRow, Vasedc.nats, nV]
  · rintro σ H' ⟨c, l, rfl, pv⟩
    rw [hl, List.take_length] at pv
    exact ⟨_, rfl, q H' D pv.2 hD pv.1⟩
end
end Lp
set_option maxRecDepth 100000
set_option maxHeartbeats 2000000
namespace Lp
open PySem PySem.Spec PyProof.Rows L2
open VasedBase (Bytes)
open Vaseda (Line Text)
open Vasedc (Op Patch lineIn Hunk hunks)
section
variable {X : Cx} {K : PySem.W.Frag}
theorem pe_fldK {o : Expr} {f : Str} {pos : Pos} {ta : TE} (hK : X.K = K) (he : PE X o ta) (hb : attributeBase o f X.env (eval o X.env) = eval o X.env) : PE X (.Attribute o f pos) (tFld K ta f) := hK ▸ pe_fld he hb
theorem sl_listK (hK : X.K = K) : SlR X (rSlL K) := hK ▸ sl_list
theorem op_eqDK (hK : X.K = K) (hu : X.A.units + 64 < cLine) : OpR X (compareOp .Eq) (rEqD K) := hK ▸ op_eqD hu
end
section
variable {P : Program} {w : World} {K : PySem.W.Frag} {mg : Str → Option Value} {base : Heap} {A : Ad}
def spPlaces (A : Ad) : Sp := fun vs H Q _ => ∃ (c l : Addr) (e : Nat) (h : Hunk) (t : Text), vs = [.ref c, .ref l, nV e] ∧ HA A (fun _ => False) H c h ∧ LnAt H l t ∧ HSmall 1000 h ∧ t.length ≤ 1000 ∧ e ≤ 1000000 ∧ NewL H Q ((spots t h e).map nV)
abbrev N_places_of : List Str := ["change", "lines", "end", "row", "past_last", "at"]
theorem sc_places_of : FnScope N_places_of ["change", "lines", "end"] (defScope (top 38)) := ⟨rfl, rfl, rfl, by decide +kernel, rfl, by decide +kernel, by decide +kernel⟩
theorem k_places_of (T : Txt K mg A) : Ok P w K mg base 1 "places_of" (spPlaces A) := by
  refine ok_mk T.d_places_of sc_places_of (fun vs H Q E ⟨_, _, _, _, _, e, _⟩ => by rw [e]; rfl) fun f cdv AA outer s H vs Q E hr tk po h => ⟨_, (pss_cons (ps_set (i := 3) sc_places_of.nd rfl (Or.inr rfl) (pe_op op_cat (pe_op op_cat (pe_fld (pv 0) rfl) (pe_fld (pv 0) rfl)) (pe_fld (pv 0) rfl)))
    (pss_cons (ps_set (i := 4) sc_places_of.nd rfl (Or.inl rfl) (pe_op op_add (pe_op op_sub (pe_len T.b_len (pv 1)) (pe_len T.b_len (pv 3))) pe_int))
    (pss_one (ps_ret (pe_lc (own := [("at", 5)]) (g := gName 5) rfl sc_places_of.nd (pi_range2 rfl T.b_range (pa_cons (pv 2) (pa_cons (pv 4) pa_nil))) (blkOk_by (own := [("at", 5)]) (N := N_places_of) (sc := defScope (top 38)) (by decide +kernel)) (fun _ _ _ _ _ => pg_name (i := 5) sc_places_of.nd rfl (Or.inl rfl)) (fun _ _ _ _ _ => pts_one (pt_cmpR (op_eqDK (K := K) rfl hr.units) (pe_slice (sl_listK (K := K) rfl) (pv 1) (po_some (pv 5)) (po_some (pe_op op_add (pv 5) (pe_lenK (K := K) rfl T.b_len (pv 3))))) (pv 3) (nomark _))) (fun _ _ _ _ _ => (pe_op op_add (pv 5) (pe_lenK (K := K) rfl T.b_len (pe_fldK (K := K) rfl (pv 0) rfl))))))))), ?_⟩
  obtain ⟨c, l, e, h, t, rfl, ⟨dx, b, o, n, r, h0, h1, h2, h3, h4, _⟩, hl, sm, ht, he, q⟩ := h
  have tl : (t.map sV).length = t.length := List.length_map ..
  have z1 := sm.a
  have z2 := sm.o
  have z4 := sm.r
  refine ⟨_, rfl, c, _, dx, _, _, rfl, h0, T.q_Change.cl, T.q_Change.no _ (by decide), rfl, ?_⟩
  refine ⟨_, rfl, c, _, dx, _, _, rfl, h0, T.q_Change.cl, T.q_Change.no _ (by decide), rfl, ?_⟩
  refine ⟨b, o, _, _, rfl, rfl, h1, h2, sz_of (by rw [List.length_map, List.length_map]; omega), fun R1 hR1 => ?_⟩
  have e1 := same_new (o := .lst (h.ahead.map sV ++ h.old.map sV)) hR1
  refine ⟨_, rfl, c, _, dx, _, _, rfl, e1 c _ h0, T.q_Change.cl, T.q_Change.no _ (by decide), rfl, ?_⟩
  refine ⟨R1, r, _, _, rfl, rfl, upd_same, e1 r _ h4, sz_of (by rw [List.length_append, List.length_map, List.length_map, List.length_map]; omega), fun R hR => ?_⟩
  have er : h.ahead.map sV ++ h.old.map sV ++ h.rest.map sV = (rowOfH h).map sV := by unfold rowOfH; rw [List.map_append, List.map_append]
  rw [er]
  have e2 := same_trans e1 (same_new (o := .lst ((rowOfH h).map sV)) hR)
  have rl : ((rowOfH h).map sV).length = (rowOfH h).length := List.length_map ..
  have rl2 := rowOfH_len h
  refine ⟨_, rfl, l, _, rfl, SqL.of (e2 l _ hl), ?_⟩
  refine ⟨_, rfl, R, _, rfl, SqL.of upd_same, ?_⟩
  rw [tl, rl]
  refine ⟨_, _, rfl, rfl, ?_⟩
  refine ⟨_, _, rfl, rfl, ?_⟩
  refine ⟨_, rfl, _, rfl, ?_⟩
  refine ⟨_, _, rfl, ⟨by omega, by omega, by omega, by omega⟩, fun D hD => ?_⟩
  have hDH := none_back e2 hD
  generalize hH0 : upd (upd H R1 _) R _ = H0 at *
  have hR0 : H0 R = some (.lst ((rowOfH h).map sV)) := by rw [← hH0]; exact upd_same
  have en : ((t.length : Int) - ((rowOfH h).length : Int) + 1 - (e : Int)).toNat = turnsOf t h e := by unfold turnsOf; omega
  refine lc_range (lo := (e : Int)) (n := ((t.length : Int) - ((rowOfH h).length : Int) + 1 - (e : Int)).toNat) (fun i H' => CInv H0 D ((((List.range i).filter fun m => goodAt t h (e + m)).map fun m => e + m + h.ahead.length).map nV) H') (.zero hD) (fun i H1 hi pv => ?_) (fun H' pv => ?_)
  · have ei : (e : Int) + (i : Int) = ((e + i : Nat) : Int) := by omega
    rw [ei]
    have hlt : e + i + (rowOfH h).length ≤ t.length := by unfold turnsOf at en; omega
    refine ⟨rfl, ?_⟩
    refine ⟨_, rfl, _, rfl, _, rfl, _, rfl, _, rfl, R, _, rfl, SqL.of (pv.2 R _ hR0), ?_⟩
    rw [rl]
    refine ⟨_, _, rfl, rfl, ?_⟩
    have hl1 := pv.2 l _ (e2 l _ hl)
    refine ⟨_, rfl, l, _, rfl, SqL.of hl1, fun S hS => ?_⟩
    have ec : cutV (t.map sV) (some ((e + i : Nat) : Int)) (some (((e + i : Nat) : Int) + ((rowOfH h).length : Int))) = ((t.drop (e + i)).take (rowOfH h).length).map sV := by
      have := cutV_two (t.map sV) (e + i) (e + i + (rowOfH h).length) (by rw [tl]; exact hlt)
      rw [show ((e + i + (rowOfH h).length : Nat) : Int) = ((e + i : Nat) : Int) + ((rowOfH h).length : Int) by omega] at this
      rw [this, ← List.map_drop, ← List.map_take, show e + i + (rowOfH h).length - (e + i) = (rowOfH h).length by omega]
    rw [ec]
    refine ⟨_, rfl, ?_⟩
    have e3 := same_new (o := .lst (((t.drop (e + i)).take (rowOfH h).length).map sV)) hS
    refine ⟨_, _, .lst (SqL.of upd_same) (dps _ _), .lst (SqL.of (e3 R _ (pv.2 R _ hR0))) (dps _ _), shapedS _, shapedS _, _, rfl, ?_⟩
    rw [show PyData.eqv (.list (((t.drop (e + i)).take (rowOfH h).length).map dS)) (.list ((rowOfH h).map dS)) = goodAt t h (e + i) from (eqvS _ _).trans (by unfold goodAt; rw [Bool.eq_iff_iff, decide_eq_true_iff, beq_iff_eq])]
    have al : ((((List.range i).filter fun m => goodAt t h (e + m)).map fun m => e + m + h.ahead.length).map nV).length ≤ i := by
      rw [List.length_map, List.length_map]
      exact Nat.le_trans (List.length_filter_le _ _) (Nat.le_of_eq List.length_range)
    refine if_2 (fun g => ?_) fun g => ?_
    · refine ⟨_, rfl, _, rfl, c, _, dx, _, _, rfl, e3 c _ (pv.2 c _ (e2 c _ h0)), T.q_Change.cl, T.q_Change.no _ (by decide), rfl, ?_⟩
      refine ⟨b, _, rfl, SqL.of (e3 b _ (pv.2 b _ (e2 b _ h1))), ?_⟩
      rw [show (h.ahead.map sV).length = h.ahead.length from List.length_map ..]
      refine ⟨_, _, rfl, rfl, ?_⟩
      refine ⟨_, e3 D _ pv.1, sz_lt (by omega), pv.more hD e3 ?_⟩
      rw [List.range_succ, List.filter_append, List.map_append, List.map_append]
      congr 1
      simp [g]
    · refine ⟨e3 D _ pv.1 |>.trans ?_, same_trans pv.2 e3⟩
      rw [List.range_succ, List.filter_append]
      simp [g]
  · rw [en] at pv
    refine q H' D (same_trans e2 pv.2) hDH pv.1
end
end Lp
set_option maxRecDepth 100000
set_option maxHeartbeats 2000000
/-! min(xs, key=lambda place: (abs(place - wanted), place)) -/
namespace Lp
open PySem PySem.Spec PyProof.Rows L2
abbrev keyE (p1 p2 p3 p4 p5 p6 p7 : Pos) (kk : Nat) : Expr := .Tuple [.Call (.Name "abs" p1) [.BinOp (.Name "place" p2) .Sub (.Name "wanted" p3) p4] [] p5, .Name "place" p6] kk p7
abbrev keyP (pp : Pos) : Arguments := { posonlyargs := [], args := [{ arg := "place", annotation := none, pos := pp }], vararg := none, kwonlyargs := [], kw_defaults := [], kwarg := none, defaults := [] }
abbrev keyS : Scope := { kind := .function, names := [("place", .local), ("wanted", .free), ("abs", .globalImplicit)], isGenerator := false, isCoroutine := false, more := [] }
def absI (i : Int) : Int := if i < 0 then -i else i
section
variable {X : Cx} {pins : List (Addr × Obj)} {σ : L2.St} {H : Hp} {s : Shared}
/-- the lambda's call: a new tuple, all else stays -/
theorem lam_key {A : Around} {f c' cw : Addr} {pp p1 p2 p3 p4 p5 p6 p7 : Pos} {kk : Nat} {q : Str} {cl : List (Str × Addr)} {pm ctv : Value} {v z : Int} {tv tz : Tok} {Q E : Value → Shared → Prop}
    (I : Inv X pins σ H s) (hm : X.mg "abs" = none) (hroom : A.depth < recursionLimit) (of1 : s.heap.get? f = some (PySem.W.kla_obj "<lambda>" q (keyP pp) (keyE p1 p2 p3 p4 p5 p6 p7 kk) keyS cl pm c' ctv)) (rc : s.heap.CodeRec (.ref c') q)
    (hc : cl.lookup ("wanted" : Str) = some cw) (hw : s.heap.IsCell cw (some (.int z tz)))
    (fin : ∀ h' tk a t1 t2, (∀ b o, s.heap.get? b = some o → h'.get? b = some o) → h'.IsTuple a #[.int (absI (v - z)) t1, .int v t2] → s.heap.objs.size ≤ a → Q (.ref a) { s with heap := h', toks := tk }) :
    wpAny (model X.prog X.w) A (call (.ref f) [.int v tv]) Q E s := by
  have lim := I.nolimit
  obtain ⟨mb, hb1, hb2⟩ := I.mod.blt
  have hg0 := I.mod.glob.keeps I.bk
  have hb0 := hb1.keeps I.bk
  refine wpAny_call (PySem.W.kla_callFunE hroom of1 rfl rfl rfl rfl rc ?_)
  rw [show bindArgs (PySem.W.kla_fn "<lambda>" q (keyP pp) (keyE p1 p2 p3 p4 p5 p6 p7 kk) keyS cl pm (.ref c') ctv) ⟨[.int v tv], []⟩ = pure [(("place" : Str), Value.int v tv)] by first | rfl | with_unfolding_all rfl | kernel_rfl]
  refine wpAny_pure (wpAny_newFunctionEnv (show ∀ x ∈ keyS.names, x.2 ≠ .cell by decide) (by intro x hx; simp at hx; subst hx; rfl) (fun h₁ hns hsb => ⟨lim.fresh _ hsb, ?_⟩) rfl)
  have kp : ∀ b o, s.heap.get? b = some o → h₁.get? b = some o := fun b o e => hsb.extBut b o (Nat.ne_of_lt (Heap.lt_size e)) (Heap.get?_push_of_some _ e)
  show codeAny _ _ (.expr (keyE p1 p2 p3 p4 p5 p6 p7 kk) (PySem.W.envX q keyS s.heap.objs.size f (.ref c') cl)) _ _
  refine PySem.W.kla_codeExpr (wpAny_Tuple_spliced ?_)
  have hg1 := hg0.keeps kp
  have hb2' := hb0.keeps kp
  have hw1 : h₁.IsCell cw (some (.int z tz)) := by
    obtain ⟨o, ho, hd⟩ := hw
    exact ⟨o, kp _ _ ho, hd⟩
  have nm : ∀ {A' : Around} {E' : Value → Shared → Prop} {pos : Pos} {tk : Nat} {Q' : Value → Shared → Prop}, Q' (.int v tv) { s with heap := h₁, toks := tk } → wpAny (model X.prog X.w) A' (eval (.Name "place" pos) (PySem.W.envX q keyS s.heap.objs.size f (.ref c') cl)) Q' E' { s with heap := h₁, toks := tk } :=
    fun h => wpAny_Name (wpAny_loadName_local rfl rfl hns rfl h) (by decide)
  have habs : mb "abs" = some (.builtin "abs") := (hb2 "abs" (by decide)).trans (by decide +kernel)
  generalize hE : PySem.W.envX q keyS s.heap.objs.size f (.ref c') cl = env at *
  show wpAny _ _ (spliced ((false, eval (.Call (.Name "abs" p1) [.BinOp (.Name "place" p2) .Sub (.Name "wanted" p3) p4] [] p5) env) :: [(false, eval (.Name "place" p6) env)])) _ _ _
  refine Calls.spliced_cons ?_
  refine wpAny_Call_Name_kw ?_
  subst hE
  refine Calls.Name_function_global rfl rfl (Calls.loadGlobal_builtin (mg := X.mg) (mb := mb) hg1 hm hb2' habs ?_) (by decide)
  refine PyProof.Rows.callWith_builtin1 (Calls.spliced_cons ?_) rfl rfl
  refine wpAny_BinOp (nm ?_)
  refine wpAny_Name (wpAny_loadName_free rfl rfl hc hw1 ?_) (by decide)
  refine sub_int ?_
  refine Calls.spliced_nil ?_
  refine call_abs_int fun t1 tk1 => ?_
  refine Calls.spliced_cons (nm ?_)
  refine Calls.spliced_nil ?_
  refine ⟨sz2, ?_⟩
  exact fin (h₁.push { cls := .type "tuple", data := .seq [Value.int (absI (v - z)) t1, Value.int v tv].toArray }) _ h₁.objs.size t1 tv (fun b o e => Heap.get?_push_of_some _ (kp b o e)) ⟨_, Heap.get?_push_size _ rfl, rfl, _, rfl⟩ (Nat.le_of_lt hns.lt)
/-- which key is the less: how far, then where -/
def keyLt (z : Int) (a b : Nat) : Bool := decide (absI ((a : Int) - z) < absI ((b : Int) - z)) || (decide (absI ((a : Int) - z) = absI ((b : Int) - z)) && decide (a < b))
theorem argBest_le (bt : Nat → Nat → Bool) : ∀ n, argBest bt n ≤ n
  | 0 => Nat.le_refl _
  | n + 1 => by
    show (if bt (n + 1) (argBest bt n) = true then n + 1 else argBest bt n) ≤ _
    split
    · exact Nat.le_refl _
    · exact Nat.le_succ_of_le (argBest_le bt n)
/-- the first of the least -/
theorem argBest_is (ps : List Nat) (z : Int) (bt : Nat → Nat → Bool) (hb : ∀ i j a b, ps[i]? = some a → ps[j]? = some b → bt i j = keyLt z a b) : ∀ n m, n < ps.length → ps[argBest bt n]? = some m → ∀ i a, i ≤ n → ps[i]? = some a → a = m ∨ keyLt z m a = true := by
  intro n
  induction n with
  | zero =>
    intro m _ hm i a hi ha
    have : i = 0 := by omega
    subst this
    have hm : ps[0]? = some m := hm
    rw [ha] at hm; cases hm; exact .inl rfl
  | succ n ih =>
    intro m hn hm i a hi ha
    have hk := argBest_le bt n
    obtain ⟨b, hbv⟩ := get_of_lt (l := ps) (i := argBest bt n) (by omega)
    obtain ⟨c, hc⟩ := get_of_lt (l := ps) (i := n + 1) hn
    have hm : ps[if bt (n + 1) (argBest bt n) = true then n + 1 else argBest bt n]? = some m := hm
    have hbt := hb (n + 1) (argBest bt n) c b hc hbv
    have ih := ih b (by omega) hbv
    rw [hbt] at hm
    by_cases g : keyLt z c b = true
    · rw [if_pos g] at hm
      rw [hc] at hm; cases hm
      by_cases e : i = n + 1
      · subst e; rw [hc] at ha; cases ha; exact .inl rfl
      · rcases ih i a (by omega) ha with q | q
        · rw [q]; exact .inr g
        · right
          unfold keyLt at g q ⊢
          simp only [Bool.or_eq_true, Bool.and_eq_true, decide_eq_true_eq] at g q ⊢
          omega
    · rw [if_neg g] at hm
      rw [hbv] at hm; cases hm
      by_cases e : i = n + 1
      · subst e
        rw [hc] at ha; cases ha
        unfold keyLt at g ⊢
        simp only [Bool.or_eq_true, Bool.and_eq_true, decide_eq_true_eq] at g ⊢
        unfold absI at *
        omega
      · exact ih i a (by omega) ha
/-- what it reads -/
def tMinK (K : PySem.W.Frag) (P : Addr) (q : Str) (ta : TE) (iw : Nat) : TE := fun σ H Q => ta σ H fun x H1 => ∃ (a : Addr) (ps : List Nat) (z : Int), x = .ref a ∧ SqL K H1 a (ps.map nV) ∧ ps ≠ [] ∧ σ[iw]? = some (some (.int z)) ∧ LamX.TabS H1 P q ∧
  ∀ H2 m, LamX.ExtN H1 H2 → LamX.TabS H2 P q → m ∈ ps → (∀ i ∈ ps, i = m ∨ keyLt z m i = true) → Q (nV m) H2
theorem pe_min {e : Expr} {ta : TE} {c P : Addr} {iw k : Nat} {kk : Nat} {pp p1 p2 p3 p4 p5 p6 p7 p pos lpos kpos : Pos} (TB : LamX.TabB X.base X.mg c P) (hcode : X.env.code = .ref c) (hr : Room k X.A) (hm : X.mg "min" = none) (hma : X.mg "abs" = none) (hcalm : X.calm = true) (hk1 : 2 ≤ k) (hN : X.N[iw]? = some ("wanted" : Str))
    (hcell : X.env.scope.names.lookup ("wanted" : Str) = some NameKind.cell) (ha : PE X e ta) (hg : Gl X "min" := by rfl) (hs : starEach [e] X.env = (false, eval e X.env) :: starEach [] X.env := by rfl)
    (he : ∀ lam : Expr, backTo pos (starEach (e :: []) X.env) = (false, eval e X.env) :: backTo pos (starEach [] X.env) := by intro _; rfl) (hpl : (backTo pos (starEach (e :: []) X.env)).any (·.1) = false := by rfl)
    (hkw : ∀ lam : Expr, backToKw pos (keywordEach [⟨some "key", lam, kpos⟩] X.env) = [(some ("key" : Str), do let v ← eval lam X.env; standAt pos; pure v)] := by intro _; rfl)
    (hdef : defaultsOf (keyP pp) X.env = ([], []) := by rfl) :
    PE X (.Call (.Name "min" p) [e] [⟨some "key", .Lambda (keyP pp) (keyE p1 p2 p3 p4 p5 p6 p7 kk) keyS lpos, kpos⟩] pos) (tMinK X.K P (X.env.qual ++ "<lambda>") ta iw) := by
  refine ⟨fun pins s σ H Q I h => ?_⟩
  refine wpAny_Call_Name_kw (ld_blt I hg hm PyProof.Rows.boot_min ?_)
  refine PyProof.Rows.callWith_kw ?_ (he e) hpl (by rw [hkw]; rfl) (by rw [hkw]; rfl)
  rw [he e]
  refine Calls.spliced_cons (thn (ha.run pins s σ H _ I h) fun u s1 ⟨x, H1, I1, r1, a, ps, z, ex, hsq, hne, hz, hT, q⟩ => ?_)
  subst ex
  obtain rfl : u = Value.ref a := r1
  refine Calls.spliced_nil ?_
  rw [hkw]
  have free : ∀ y ∈ keyS.names, y.2 = .free → ∃ c, X.env.cells.lookup y.1 = some c := fun y hy ey => by
    simp at hy
    rcases hy with rfl | rfl | rfl
    · cases ey
    · exact I1.ok.has _ (.inl hcell)
    · cases ey
  refine wpAny_evalAll_cons (wpAny_bind (LamX.lam_make2 (T := [(P, X.env.qual ++ "<lambda>")]) I1 TB hcode (by simp) (fun p hp e => by rw [List.mem_singleton.mp hp]) (fun p hp => by rw [List.mem_singleton.mp hp]; exact hT) hdef free fun f c' pm ctv H2 s2 I2 eN T2 hf hfn hfr hco => ?_))
  refine wpAny_bind (wpAny_standAt (wpAny_pure (wpAny_evalAll_nil ?_)))
  show wpAny _ _ (call (.builtin "min") [.ref a] [((("key" : Str)), .ref f)]) _ _ _
  have hsq2 : SqL X.K H2 a (ps.map nV) := hsq.elim (fun z => .inl (z.elim (fun z => .inl (eN _ _ z (fun ps z => nomatch z))) fun ⟨o, z⟩ => .inr ⟨o, eN _ _ z (fun ps z => nomatch z)⟩)) .inr
  obtain ⟨its, rv, pl, _⟩ := I2.list hsq2
  have hl := pl.isList
  have len : its.length = ps.length := by rw [← rv.length, List.length_map]
  have hn : 0 < ps.length := List.length_pos_iff.mpr hne
  have aI : a ≠ s2.heap.objs.size := fun z => by
    obtain ⟨o, ho, _⟩ := hl
    exact absurd (Heap.lt_size ho) (by rw [z]; exact Nat.lt_irrefl _)
  have hh : X.A.in1.handled = none := I2.ok.hd hcalm
  have size : (s2.heap.push { cls := .type "list_iterator", data := .fields #[.ref a, .int 0 0] }).objs.size = s2.heap.objs.size + 1 := Heap.size_push _ _
  obtain ⟨cw, hcw⟩ := I2.ok.has _ (.inl hcell)
  have hzc : ∃ tz, s2.heap.IsCell cw (some (.int z tz)) := by
    obtain ⟨m, hn, hl⟩ := I2.loc
    obtain ⟨u, ru, lk⟩ := hl iw "wanted" (.int z) hN hz (.inr (.inl hcell))
    obtain ⟨tz, rfl⟩ := ru
    rcases lk with ⟨k1, _⟩ | ⟨_, c2, e2, g⟩
    · have k1 : X.env.scope.names.lookup ("wanted" : Str) = some NameKind.local := k1
      rw [hcell] at k1; cases k1
    · rw [hcw] at e2; cases e2
      exact ⟨tz, g⟩
  obtain ⟨tz, hcz⟩ := hzc
  have hclo : (cloFrom X.env.cells keyS.names []).lookup ("wanted" : Str) = some cw := NdefX.clo_has free (by simp) hcw
  have hcode2 : s2.heap.CodeRec (.ref c') (X.env.qual ++ "<lambda>") := NdefX.codeO_at I2.hok hco
  have item : ∀ {i : Nat} {v : Value}, its.toArray[i]? = some v → ∃ p t, ps[i]? = some p ∧ v = .int (p : Int) t := fun {i v} h => by
    have h : its[i]? = some v := by simpa using h
    have hi := get_lt h
    obtain ⟨p, hp⟩ := get_of_lt (l := ps) (i := i) (by omega)
    obtain ⟨u, hu, ru⟩ := rv.get (i := i) (x := nV p) (by rw [List.getElem?_map, hp]; rfl)
    rw [h] at hu; cases hu
    obtain ⟨t, rfl⟩ := ru
    exact ⟨p, t, hp, rfl⟩
  refine call_min_walkK (wpAny_pyIter_list hl ?_)
  refine ⟨s2.heap.objs.size, [s2.heap.objs.size, a], [s2.heap.objs.size], fun x y => y = x, its.toArray.size, fun i v => its.toArray[i]? = some v, fun i s' => s'.heap.IsListIter s2.heap.objs.size a i ∧ s'.heap.IsList a its.toArray,
    fun s' => (∃ h' tk, s' = { s2 with heap := h', toks := tk }) ∧ ∀ b o, s2.heap.get? b = some o → s'.heap.get? b = some o,
    fun i k s' => ∃ tup p t1 t2, ps[i]? = some p ∧ k = .ref tup ∧ tup ≠ s2.heap.objs.size ∧ tup ≠ s2.heap.objs.size + 1 ∧ s'.heap.IsTuple tup #[.int (absI ((p : Int) - z)) t1, .int (p : Int) t2],
    fun i j => keyLt z (ps.getD i 0) (ps.getD j 0), rfl, (Walks.list hh _ a aI its.toArray).toS, ?_, ?_, ?_, ?_, ?_, ?_⟩
  · exact ⟨⟨_, Heap.get?_push_size _ rfl, rfl, rfl⟩, hl.at fun o e => Heap.get?_push_of_some _ e⟩
  · intro b hb
    rw [size]
    rcases List.mem_cons.mp hb with e | hb
    · rw [e]; exact Nat.lt_succ_self _
    · rw [List.mem_singleton.mp hb]
      obtain ⟨o, ho, _⟩ := hl
      exact Nat.lt_succ_of_lt (Heap.lt_size ho)
  · rw [List.size_toArray, len]; exact hn
  · rw [size]
    have out : ∀ {b : Addr} {o : Obj}, s2.heap.get? b = some o → b ∉ [s2.heap.objs.size + 1, s2.heap.objs.size] := fun {b o} e z => by
      have h1 : b < s2.heap.objs.size := Heap.lt_size e
      rcases List.mem_cons.mp z with z | z
      · exact absurd h1 (by rw [z]; exact Nat.not_lt.mpr (Nat.le_succ _))
      · exact absurd h1 (by rw [List.mem_singleton.mp z]; exact Nat.lt_irrefl _)
    refine ⟨fun s' s'' ⟨⟨h', tk, e⟩, kp⟩ mv => ?_, fun i k s' s'' ⟨tup, p, t1, t2, g1, g2, g3, g4, g5⟩ mv => ⟨tup, p, t1, t2, g1, g2, g3, g4, g5.at fun o e => mv.heap tup o (by simp; exact ⟨g4, g3⟩) e⟩, ?_, ?_⟩
    · refine ⟨⟨s''.heap, s''.toks, ?_⟩, fun b o z => mv.heap b o (out z) (kp b o z)⟩
      rw [Moved.eq_with mv, e]
    · rintro i v s' o Q' E' hi hP ⟨⟨h', tk, e⟩, kp⟩ ⟨st1, st2⟩ hS fin
      obtain ⟨p, t, hp, rfl⟩ := item hP
      have I3 : L2.Inv X pins σ H2 s' := by
        rw [e] at kp ⊢
        exact I2.kept kp
      refine lam_key (cw := cw) (z := z) (tz := tz) I3 hma ((hr.mono hk1).in1.depth) (kp _ _ hf) (hcode2.keeps kp) hclo (by obtain ⟨o, ho, hd⟩ := hcz; exact ⟨o, kp _ _ ho, hd⟩) fun h2 tk2 tup t1 t2 k2 tp big => ?_
      obtain ⟨oI, hoI, _⟩ := id st1
      have l1 := Heap.lt_size hoI
      have l2 := Heap.lt_size hS
      refine fin (.ref tup) _ ⟨⟨h2, tk2, by rw [e]⟩, fun b o z => k2 b o (kp b o z)⟩ ⟨st1.at fun o z => k2 _ _ z, st2.at fun o z => k2 _ _ z⟩ (k2 _ _ hS) ⟨tup, p, t1, t2, hp, rfl, Nat.ne_of_gt (Nat.lt_of_lt_of_le l1 big), Nat.ne_of_gt (Nat.lt_of_lt_of_le l2 big), tp⟩ fun j k' ⟨tup', p', t1', t2', g1, g2, g3, g4, g5⟩ => ⟨tup', p', t1', t2', g1, g2, g3, g4, g5.at fun o z => k2 _ _ z⟩
    · rintro i j ki kj s' Q' E' _ ⟨tup, p, t1, t2, g1, rfl, _, _, g5⟩ ⟨tup', p', t1', t2', g1', rfl, _, _, g5'⟩ fin
      have e1 : ps.getD i 0 = p := by rw [List.getD_eq_getElem?_getD, g1]; rfl
      have e2 : ps.getD j 0 = p' := by rw [List.getD_eq_getElem?_getD, g1']; rfl
      rw [e1, e2] at fin
      refine HT.lt_tupInts g5 g5' (ns := [absI ((p : Int) - z), (p : Int)]) (ms := [absI ((p' : Int) - z), (p' : Int)]) (intsAre_of (.cons ⟨_, rfl⟩ (.cons ⟨_, rfl⟩ .nil))) (intsAre_of (.cons ⟨_, rfl⟩ (.cons ⟨_, rfl⟩ .nil))) ((hr.mono hk1).in1.units0) ?_
      have el : HT.lexLt [absI ((p : Int) - z), (p : Int)] [absI ((p' : Int) - z), (p' : Int)] = keyLt z p p' := by
        unfold keyLt
        rw [HT.lexLt_cons, HT.lexLt_cons, HT.lexLt_nil_nil]
        by_cases h1 : absI ((p : Int) - z) = absI ((p' : Int) - z)
        · rw [if_pos h1, h1]
          by_cases h2 : (p : Int) = (p' : Int)
          · rw [if_pos h2]
            have : p = p' := by omega
            simp [this]
          · rw [if_neg h2]
            simp
        · rw [if_neg h1]
          simp [h1]
      rw [el]
      exact fin
  · exact ⟨⟨_, _, rfl⟩, fun b o z => Heap.get?_push_of_some _ z⟩
  · rintro v s' hP ⟨⟨h', tk, e⟩, kp⟩
    obtain ⟨m, t, hm, rfl⟩ := item hP
    have I3 : L2.Inv X pins σ H2 s' := by
      rw [e] at kp ⊢
      exact I2.kept kp
    refine ⟨nV m, H2, I3, ⟨t, rfl⟩, q H2 m eN (T2 (P, X.env.qual ++ "<lambda>") (List.mem_singleton.mpr rfl)) (List.mem_of_getElem? hm) fun i hi => ?_⟩
    obtain ⟨j, hj⟩ := List.getElem?_of_mem hi
    refine argBest_is ps z _ (fun i j a b ha hb => by rw [List.getD_eq_getElem?_getD, List.getD_eq_getElem?_getD, ha, hb]; rfl) (its.toArray.size - 1) m (by rw [List.size_toArray, len]; omega) hm j i ?_ hj
    have := get_lt hj
    rw [List.size_toArray, len]; omega
end
end Lp
set_option maxRecDepth 100000
set_option maxHeartbeats 2000000
namespace Lp
open PySem PySem.Spec PyProof.Rows L2
open VasedBase (Bytes)
open Vaseda (Line Text)
open Vasedc (Op Patch lineIn Hunk hunks driftBy)
section
variable {P : Program} {w : World} {K : PySem.W.Frag} {mg : Str → Option Value} {base : Heap} {A : Ad}
abbrev qN : Str := (("nearest_to" : Str) ++ (".<locals>." : Str)) ++ ("<lambda>" : Str)
def spNearest (A : Ad) (K : PySem.W.Frag) : Sp := fun vs H Q _ => ∃ (a : Addr) (ps : List Nat) (z : Int), vs = [.ref a, .int z] ∧ SqL K H a (ps.map nV) ∧ ps ≠ [] ∧ LamX.TabS H A.tb qN ∧
  ∀ H2 m, LamX.ExtN H H2 → LamX.TabS H2 A.tb qN → m ∈ ps → (∀ i ∈ ps, i = m ∨ keyLt z m i = true) → Q (nV m) H2
abbrev N_nearest_to : List Str := ["places", "wanted"]
theorem sc_nearest_to : FnScope N_nearest_to ["places", "wanted"] (defScope (top 39)) := ⟨rfl, rfl, rfl, by decide +kernel, rfl, by decide +kernel, by decide +kernel⟩
theorem k_nearest_to (T : Txt K mg A) (TB : LamX.TabB base mg A.tc A.tb) : Ok P w K mg base 3 "nearest_to" (spNearest A K) := by
  obtain ⟨f, oc, od, kV, doc, pm, an, ct, osl, lk, hcd, hm, kp, b⟩ := T.n_near
  refine ⟨f, _, _, fn_of (CX := L2.CX P w) lk hcd sc_nearest_to (fun vs H Q E ⟨_, _, _, e, _⟩ => by rw [e]; rfl) fun AA outer s H vs Q E hr h => ⟨_, pss_one (ps_ret (pe_min (iw := 1) TB rfl hr T.b_min T.b_abs rfl (by decide) rfl rfl (pv 0))), ?_⟩, hm, kp, b⟩
  obtain ⟨a, ps, z, rfl, ha, hn, ht, q⟩ := h
  exact ⟨_, rfl, a, ps, z, rfl, ha, hn, rfl, ht, q⟩
end
end Lp
set_option maxRecDepth 100000
set_option maxHeartbeats 2000000
namespace Lp
open PySem PySem.Spec PyProof.Rows L2
open VasedBase (Bytes)
open Vaseda (Line Text)
open Vasedc (Op Patch lineIn Hunk hunks driftBy)
section
variable {P : Program} {w : World} {K : PySem.W.Frag} {mg : Str → Option Value} {base : Heap} {A : Ad}
theorem ext_upd {H H' : Hp} {p : Addr} {o : HO} (e : LamX.ExtN H H') (h : H p = none) : LamX.ExtN H (upd H' p o) := fun b u q n => by
  rw [upd_ne (ne_of_none q h)]
  exact e b u q n
theorem ext_same {H H1 H' : Hp} (e : LamX.ExtN H H1) (s : Same H1 H') : LamX.ExtN H H' := fun b u q n => s b u (e b u q n)
theorem ext_none {H H' : Hp} {D : Addr} (e : LamX.ExtN H H') (t : ∀ ps, H D ≠ some (.tbl ps)) (h : H' D = none) : H D = none := by
  cases q : H D with
  | none => rfl
  | some u => rw [e D u q (fun ps z => t ps (by rw [q, z]))] at h; cases h
theorem tab_same {H H' : Hp} {p : Addr} {q : Str} (t : LamX.TabS H p q) (e : Same H H') : LamX.TabS H' p q := t.ext e
theorem tab_none {H H' : Hp} {p D : Addr} {q : Str} {o : HO} (t : LamX.TabS H' p q) (e : LamX.ExtN H H') (h : H' D = none) (h0 : LamX.TabS H p q) (u : ∀ b, b ≠ p → ∀ ps, H b ≠ some (.tbl ps)) : H D = none := by
  refine ext_none e (fun ps z => ?_) h
  by_cases c : D = p
  · obtain ⟨ps', h1, _⟩ := t
    rw [c, h1] at h; cases h
  · exact u D c ps z
theorem lst_ext {H H' : Hp} {a : Addr} {xs : List V} (e : LamX.ExtN H H') (h : H a = some (.lst xs)) : H' a = some (.lst xs) := e a _ h fun _ z => nomatch z
theorem HA.ext {av : Addr → Prop} {H H' : Hp} {c : Addr} {h : Hunk} (k : HA A av H c h) (e : LamX.ExtN H H') : HA A av H' c h := by
  obtain ⟨dx, b, o, n, q, h0, h1, h2, h3, h4, r⟩ := k
  exact ⟨dx, b, o, n, q, e c _ h0 (fun _ z => nomatch z), lst_ext e h1, lst_ext e h2, lst_ext e h3, lst_ext e h4, r⟩
/-- a list of lines at M that grows, beside the table -/
structure GInv (A : Ad) (H : Hp) (M : Addr) (ms : Text) (H' : Hp) : Prop where
  at_ : LnAt H' M ms
  ext : LamX.ExtN H H'
  tab : LamX.TabS H' A.tb qN
  fr : H M = none
theorem GInv.same {H H1 H' : Hp} {M : Addr} {ms : Text} (g : GInv A H M ms H1) (e : Same H1 H') : GInv A H M ms H' := ⟨e M _ g.at_, ext_same g.ext e, tab_same g.tab e, g.fr⟩
theorem GInv.lam {H H1 H' : Hp} {M : Addr} {ms : Text} (g : GInv A H M ms H1) (e : LamX.ExtN H1 H') (t : LamX.TabS H' A.tb qN) : GInv A H M ms H' := ⟨lst_ext e g.at_, g.ext.trans e, t, g.fr⟩
theorem GInv.put {H H1 : Hp} {M : Addr} {ms : Text} (g : GInv A H M ms H1) (m2 : Text) (xs : List V) (h : xs = m2.map sV) : GInv A H M m2 (upd H1 M (.lst xs)) := by
  have ne : A.tb ≠ M := fun z => by
    obtain ⟨ps, h1, _⟩ := g.tab
    have := g.at_
    rw [z, this] at h1; cases h1
  refine ⟨by rw [h]; exact upd_same, ext_upd g.ext g.fr, ?_, g.fr⟩
  obtain ⟨ps, h1, h2, h3⟩ := g.tab
  refine ⟨ps, (upd_ne ne).trans h1, h2, fun pos cv hc => ?_⟩
  obtain ⟨c, e1, e2⟩ := h3 pos cv hc
  refine ⟨c, e1, ?_⟩
  rw [upd_ne]
  · exact e2
  · intro z
    have := g.at_
    rw [z, this] at e2
    unfold LamX.CodeO at e2
    cases e2
theorem far_is (w p : Nat) : absI ((p : Int) - (w : Int)) = (farOf w p : Int) := by
  unfold absI farOf
  split <;> split <;> omega
theorem keyLt_near {w m i : Nat} (h : keyLt (w : Int) m i = true) : nearer w m i := by
  unfold keyLt at h
  rw [far_is, far_is] at h
  simp only [Bool.or_eq_true, Bool.and_eq_true, decide_eq_true_eq] at h
  unfold nearer
  omega
theorem raiseN {H : Hp} {E : XK} {x : Str} {C : Addr} {n : Int} {qual : Str} {st : Stmt} {ps : List Str} (T : ExT K mg x C qual st ps ["number"]) (o : Out E H C [("number", .int n)]) :
    [V.int n].length ≤ 1000 ∧ ∀ a, H a = none → spIniN K (.ref a :: [.int n]) (upd H a (exo a C none)) (fun v H2 => v = .non ∧ ∃ (d : Addr) (fs : List (Str × V)), H2 a = some (exo a C (some d)) ∧ H2 d = some (exd d fs) ∧ H d = none ∧ E (.ref C) (some d) (upd (del H2 a) d (.xd fs))) (fun _ _ _ => False) :=
  ⟨by show 1 ≤ 1000; decide, fun a ha => ⟨a, C, n, rfl, upd_same, T.bm, T.no _ (List.mem_cons_self ..), made_out ha o⟩⟩
theorem sz_of' {n : Nat} (h : n ≤ 10000000) : n ≤ sizeLine := Nat.le_trans h (by decide)
def spPut (A : Ad) : Sp := fun vs H Q E => ∃ (c l : Addr) (hs : List Hunk) (t : Text), vs = [.ref c, .ref l] ∧ HunksAt A H c hs ∧ LnAt H l t ∧ (∀ h ∈ hs, HSmall 1000 h) ∧ t.length ≤ 1000 ∧ hs.length ≤ 1000 ∧ (∀ h ∈ hs, h.at_ ≤ 1000000) ∧ LamX.TabS H A.tb qN ∧
  (∀ w, driftBy t 0 0 0 hs = .ok w → ∀ H' D, LamX.ExtN H H' → LamX.TabS H' A.tb qN → LnAt H' D w → Q (.ref D) H') ∧
  (∀ k, driftBy t 0 0 0 hs = .error k → ∀ H' d, LamX.ExtN H H' → LamX.TabS H' A.tb qN → H' d = some (.xd [("number", .int (k : Int))]) → E (.ref A.np) (some d) H')
abbrev N_put_to : List Str := ["changes", "lines", "made", "end", "drift", "number", "change", "places", "place"]
theorem sc_put_to : FnScope N_put_to ["changes", "lines"] (defScope (top 37)) := ⟨rfl, rfl, rfl, by decide +kernel, rfl, by decide +kernel, by decide +kernel⟩
theorem k_put_to (T : Txt K mg A) (TB : LamX.TabB base mg A.tc A.tb) : Ok P w K mg base 4 "put_to" (spPut A) := by
  refine ok_mk T.d_put_to sc_put_to (fun vs H Q E ⟨_, _, _, _, e, _⟩ => by rw [e]; rfl) fun f cdv AA outer s H vs Q E hr tk po h => ⟨_, (pss_cons (ps_set (i := 2) sc_put_to.nd rfl (Or.inl rfl) (pe_lst pa_nil))
    (pss_cons (ps_set (i := 3) sc_put_to.nd rfl (Or.inl rfl) pe_int)
    (pss_cons (ps_set (i := 4) sc_put_to.nd rfl (Or.inl rfl) pe_int)
    (pss_cons (ps_for po rfl (pi_enum rfl T.b_enumerate (pa_cons (pv 0) pa_nil)) (pg_tup rfl (pgs_cons (pg_name (i := 5) sc_put_to.nd rfl (Or.inl rfl)) (pgs_cons (pg_name (i := 6) sc_put_to.nd rfl (Or.inl rfl)) pgs_nil))) (pss_cons (ps_set (i := 7) sc_put_to.nd rfl (Or.inl rfl) (pe_k (k_places_of T) hr tk (pa_cons (pv 6) (pa_cons (pv 1) (pa_cons (pv 3) pa_nil)))))
    (pss_cons (ps_if (pt_cmpR (op_eqE hr.units) (pv 7) (pe_lst pa_nil) (nomark _)) (pss_one (ps_raise rfl tk (pmk_ex (xk_ChangeNotPut T) hr (pa_cons (pv 5) pa_nil)))) pss_nil)
    (pss_cons (ps_set (i := 8) sc_put_to.nd rfl (Or.inl rfl) (pe_k (k_nearest_to T TB) hr tk (pa_cons (pv 7) (pa_cons (pe_callB (call_max2 rfl) rfl T.b_max (by decide +kernel) (pa_cons pe_int (pa_cons (pe_op op_add (pe_fld (pv 6) rfl) (pv 4)) pa_nil))) pa_nil))))
    (pss_cons (ps_expr (pe_bm PySem.F.plainAttrs_list PySem.F.slot_list_extend PySem.F.type_list_extend mt_extend (pv 2) (pa_cons (pe_slice sl_list (pv 1) (po_some (pv 3)) (po_some (pv 8))) pa_nil)))
    (pss_cons (ps_expr (pe_bm PySem.F.plainAttrs_list PySem.F.slot_list_extend PySem.F.type_list_extend mt_extend (pv 2) (pa_cons (pe_fld (pv 6) rfl) pa_nil)))
    (pss_cons (ps_set (i := 3) sc_put_to.nd rfl (Or.inl rfl) (pe_op op_add (pv 8) (pe_len T.b_len (pe_fld (pv 6) rfl))))
    (pss_one (ps_set (i := 4) sc_put_to.nd rfl (Or.inl rfl) (pe_op op_sub (pv 8) (pe_fld (pv 6) rfl)))))))))))
    (pss_one (ps_ret (pe_op op_cat (pv 2) (pe_slice sl_list (pv 1) (po_some (pv 3)) po_none)))))))), ?_⟩
  obtain ⟨c, l, hs, t, rfl, ⟨rs, h1, h2⟩, hl, sm, tl, hsl, atl, tab, q, o⟩ := h
  have rl : (rs.map V.ref).length = hs.length := by rw [List.length_map, h2.len]
  have tl' : (t.map sV).length = t.length := List.length_map ..
  refine ⟨Nat.zero_le _, fun M hM => ?_⟩
  have g0 : GInv A H M [] (upd H M (.lst [])) := ⟨upd_same, ext_upd (LamX.ExtN.refl H) hM, tab_same tab (same_new hM), hM⟩
  refine ⟨_, rfl, c, _, rfl, SqL.of (lst_ext g0.ext h1), ?_⟩
  refine for_it (walk_enum (xs := rs.map V.ref)) (fun i σ H' => ∃ e d ms n ch pl pp, σ = [some (.ref c), some (.ref l), some (.ref M), some (nV e), some (.int d), n, ch, pl, pp] ∧ GInv A H M ms H' ∧ PutAt t hs i e d ms ∧ e ≤ 1000000 ∧ ms.length ≤ 3000 * i) ?_ ?_ ?_ ?_
  · exact ⟨0, 0, [], none, none, none, none, rfl, g0, putAt_start t hs, Nat.zero_le _, Nat.zero_le _⟩
  · rintro i σ H' _ ⟨e, d, ms, n, ch, pl, pp, rfl, g, _⟩
    exact SqL.of (lst_ext g.ext h1)
  · rintro i x σ H1 H2 hi ⟨e, d, ms, n, ch, pl, pp, rfl, g, pa, he, hml⟩ ⟨T0, x0, y0, rfl, hT, rfl, hx0, hy0⟩
    cases hx0
    obtain ⟨c', hc', rfl⟩ := map_get hy0
    obtain ⟨h, hh, k⟩ := h2.get hc'
    have hmem := List.mem_of_getElem? hh
    have g1 := g.same (same_new (o := .tup [V.int (i : Nat), V.ref c']) hT)
    refine ⟨T0, _, rfl, SqT.of upd_same, rfl, ?_⟩
    refine ⟨_, _, rfl, _, _, rfl, rfl, ?_⟩
    refine ⟨_, rfl, _, rfl, _, rfl, ?_⟩
    refine ⟨c', l, e, h, t, rfl, k.ext g1.ext, lst_ext g1.ext hl, sm h hmem, tl, he, fun H3 R e3 hR hr3 => ?_⟩
    have g3 := g1.same e3
    refine ⟨_, rfl, Nat.zero_le _, fun L hL => ?_⟩
    have e4 := same_new (o := .lst []) hL
    have g4 := g3.same e4
    refine ⟨R, L, _, rfl, rfl, SqL.of (e4 R _ hr3), SqL.of upd_same, _, rfl, if_2 (fun b => ?_) fun b => ?_⟩
    · have b : spots t h e = [] := by simpa using b
      refine ⟨_, rfl, raiseN T.x_ChangeNotPut fun H' d' s' hd' => ?_⟩
      exact o i (putAt_none pa hh b) H' d' (ext_same g4.ext s') (tab_same g4.tab s') hd'
    · have b : spots t h e ≠ [] := by simpa using b
      obtain ⟨dx, bb, oo, nn, qq, k0, k1, k2, k3, k4, _⟩ := k.ext g4.ext
      refine ⟨_, rfl, _, rfl, c', _, dx, _, _, rfl, k0, T.q_Change.cl, T.q_Change.no _ (by decide), rfl, ?_⟩
      refine ⟨_, rfl, _, _, rfl, rfl, ?_⟩
      refine ⟨_, _, rfl, ?_⟩
      have ez : (if (h.at_ : Int) + d > 0 then (h.at_ : Int) + d else 0) = ((((h.at_ : Int) + d).toNat : Nat) : Int) := by split <;> omega
      rw [ez]
      refine ⟨R, spots t h e, _, rfl, SqL.of (e4 R _ hr3), b, g4.tab, fun H5 m e5 t5 hm least => ?_⟩
      have g5 := g4.lam e5 t5
      have mem := mem_spots.mp hm
      have hm1 : m ≤ t.length := Nat.le_trans mem.2.1 (Nat.sub_le _ _)
      have pa' := putAt_some pa hh hm fun i' hi' => (least i' hi').imp id keyLt_near
      refine ⟨_, rfl, .inl ⟨rfl, _, SqL.of g5.at_⟩, ?_⟩
      refine ⟨_, rfl, _, rfl, _, rfl, _, rfl, _, rfl, l, _, rfl, SqL.of (lst_ext g5.ext hl), fun S hS => ?_⟩
      rw [cutV_two _ _ _ (by rw [tl']; exact hm1), ← List.map_drop, ← List.map_take]
      have g6 := g5.same (same_new (o := .lst (((t.drop e).take (m - e)).map sV)) hS)
      have tk1 : ((t.drop e).take (m - e)).length ≤ 1000 := by rw [List.length_take, List.length_drop]; omega
      refine ⟨M, S, _, _, rfl, rfl, g6.at_, upd_same, sz_of' (by rw [List.length_map, List.length_map]; omega), ?_⟩
      have g7 := g6.put (ms ++ (t.drop e).take (m - e)) (ms.map sV ++ ((t.drop e).take (m - e)).map sV) (by rw [List.map_append])
      obtain ⟨dx, bb, oo, nn, qq, k0, k1, k2, k3, k4, _⟩ := k.ext g7.ext
      have smh := sm h hmem
      have z3 := smh.n
      have z2 := smh.o
      refine ⟨_, rfl, .inl ⟨rfl, _, SqL.of g7.at_⟩, ?_⟩
      refine ⟨_, rfl, c', _, dx, _, _, rfl, k0, T.q_Change.cl, T.q_Change.no _ (by decide), rfl, ?_⟩
      refine ⟨M, nn, _, _, rfl, rfl, g7.at_, k3, sz_of' (by rw [List.length_map, List.length_map, List.length_append]; omega), ?_⟩
      have g8 := g7.put (ms ++ (t.drop e).take (m - e) ++ h.new) ((ms ++ (t.drop e).take (m - e)).map sV ++ h.new.map sV) (by simp only [List.map_append])
      obtain ⟨dx, bb, oo, nn, qq, k0, k1, k2, k3, k4, _⟩ := k.ext g8.ext
      refine ⟨_, rfl, _, rfl, c', _, dx, _, _, rfl, k0, T.q_Change.cl, T.q_Change.no _ (by decide), rfl, ?_⟩
      refine ⟨oo, _, rfl, SqL.of k2, ?_⟩
      rw [show (h.old.map sV).length = h.old.length from List.length_map ..]
      refine ⟨_, _, rfl, rfl, ?_⟩
      refine ⟨_, rfl, _, rfl, c', _, dx, _, _, rfl, k0, T.q_Change.cl, T.q_Change.no _ (by decide), rfl, ?_⟩
      refine ⟨_, _, rfl, rfl, ?_⟩
      exact ⟨m + h.old.length, (m : Int) - (h.at_ : Int), _, _, _, _, _, rfl, g8, pa', by omega, by rw [List.length_append, List.length_append]; omega⟩
  · rintro σ H' ⟨e, d, ms, n, ch, pl, pp, rfl, g, pa, he, hml⟩
    rw [rl] at pa hml
    have fin := putAt_end pa (Nat.le_refl _)
    refine ⟨_, rfl, _, rfl, _, rfl, _, rfl, l, _, rfl, SqL.of (lst_ext g.ext hl), fun S hS => ?_⟩
    rw [cutV_from, ← List.map_drop]
    have g6 := g.same (same_new (o := .lst ((t.drop e).map sV)) hS)
    refine ⟨M, S, _, _, rfl, rfl, g6.at_, upd_same, sz_of' (by rw [List.length_map, List.length_map, List.length_drop]; omega), fun R hR => ?_⟩
    have g7 := g6.same (same_new (o := .lst (ms.map sV ++ (t.drop e).map sV)) hR)
    exact q _ fin _ R g7.ext g7.tab (by show upd _ R _ R = _; rw [upd_same, List.map_append])
end
end Lp
/-! The tokens of a script, place by place. -/
namespace Lp
open VasedBase
/-- how many bytes stand ahead of the next token -/
def skip : Bool → Bytes → Nat
  | _, [] => 0
  | r, c :: l => if c = 10 then 1 + skip false l else if c = 35 then 1 + skip true l else if (!r && !isBlank c) = true then 0 else 1 + skip r l
theorem blank10 : isBlank 10 = true := by decide
theorem blank35 : isBlank 35 = false := by decide
theorem skip_le : ∀ (r : Bool) (l : Bytes), skip r l ≤ l.length
  | _, [] => Nat.le_refl _
  | r, c :: l => by
    have h1 := skip_le false l; have h2 := skip_le true l; have h3 := skip_le r l
    unfold skip
    rw [List.length_cons]
    split
    · omega
    · split
      · omega
      · split <;> omega
/-- the fuel does not matter -/
theorem token_pos {l : Bytes} {x : Tok × Nat} (h : token l = some x) : 1 ≤ x.2 ∧ x.2 ≤ l.length := by
  cases l with
  | nil => cases h
  | cons b r =>
    unfold token at h
    dsimp only at h
    split at h
    · rename_i hb
      split at h
      · cases h
      · cases h
        dsimp only
        have := (List.takeWhile_sublist isLetter (l := b :: r)).length_le
        have e : (b :: r).takeWhile isLetter = b :: r.takeWhile isLetter := by rw [List.takeWhile_cons, if_pos hb]
        rw [e] at this ⊢
        rw [List.length_cons] at this ⊢
        exact ⟨by omega, this⟩
    · split at h
      · rename_i hb
        rw [Option.map_eq_some_iff] at h
        obtain ⟨n, _, rfl⟩ := h
        dsimp only
        have := (List.takeWhile_sublist isDigit (l := b :: r)).length_le
        have e : (b :: r).takeWhile isDigit = b :: r.takeWhile isDigit := by rw [List.takeWhile_cons, if_pos hb]
        rw [e] at this ⊢
        rw [List.length_cons] at this ⊢
        exact ⟨by omega, this⟩
      · split at h
        · cases h
          exact ⟨Nat.le_refl _, by rw [List.length_cons]; omega⟩
        · cases h
theorem dw_le (p : UInt8 → Bool) (l : Bytes) : (l.dropWhile p).length ≤ l.length := (List.dropWhile_sublist p (l := l)).length_le
theorem lex_fuel : ∀ (n m : Nat) (p : Nat) (l : Bytes), l.length < n → l.length < m → lex n p l = lex m p l
  | 0, _, _, _, h, _ => absurd h (Nat.not_lt_zero _)
  | _ + 1, 0, _, _, _, h => absurd h (Nat.not_lt_zero _)
  | n + 1, m + 1, p, [], _, _ => rfl
  | n + 1, m + 1, p, b :: r, h1, h2 => by
    rw [List.length_cons] at h1 h2
    unfold lex
    have e1 := lex_fuel n m (p + 1) r (by omega) (by omega)
    have d := dw_le (· != 10) r
    have e2 := lex_fuel n m (p + 1 + (r.takeWhile (· != 10)).length) (r.dropWhile (· != 10)) (by omega) (by omega)
    rw [e1, e2]
    split
    · rfl
    · split
      · rfl
      · cases ht : token (b :: r) with
        | none => rfl
        | some x =>
          dsimp only
          have ⟨t1, t2⟩ := token_pos ht
          have e3 := lex_fuel n m (p + x.2) ((b :: r).drop x.2) (by rw [List.length_drop, List.length_cons]; omega) (by rw [List.length_drop, List.length_cons]; omega)
          rw [e3]
def lx (p : Nat) (l : Bytes) : Except Fault Toks := lex (l.length + 1) p l
theorem lex_lx {n p : Nat} {l : Bytes} (h : l.length < n) : lex n p l = lx p l := lex_fuel _ _ _ _ h (Nat.lt_succ_self _)
theorem lx_nil (p : Nat) : lx p [] = .ok [⟨p, .last⟩] := rfl
theorem lx_blank {p : Nat} {b : UInt8} {r : Bytes} (h : isBlank b = true) : lx p (b :: r) = lx (p + 1) r := by
  unfold lx
  rw [List.length_cons]
  conv => lhs; unfold lex
  rw [if_pos h]
theorem lx_remark {p : Nat} {r : Bytes} : lx p (35 :: r) = lx (p + 1 + (r.takeWhile (· != 10)).length) (r.dropWhile (· != 10)) := by
  conv => lhs; unfold lx lex
  rw [if_neg (by rw [blank35]; exact Bool.false_ne_true), if_pos (by decide)]
  exact lex_lx (by have := dw_le (· != 10) r; rw [List.length_cons]; omega)
theorem lx_token {p : Nat} {b : UInt8} {r : Bytes} (h : isBlank b = false) (h2 : b ≠ 35) : lx p (b :: r) = match token (b :: r) with
    | none => .error ⟨2, p⟩
    | some x => (lx (p + x.2) ((b :: r).drop x.2)).map fun l => ⟨p, x.1⟩ :: l := by
  conv => lhs; unfold lx lex
  rw [if_neg (by rw [h]; exact Bool.false_ne_true), if_neg (by simpa using h2)]
  cases ht : token (b :: r) with
  | none => rfl
  | some x =>
    dsimp only
    have ⟨t1, t2⟩ := token_pos ht
    rw [lex_lx (by rw [List.length_drop]; rw [List.length_cons] at t2 ⊢; omega)]
/-- in a remark -/
theorem skip_true : ∀ (l : Bytes), skip true l = (l.takeWhile (· != 10)).length + skip false (l.dropWhile (· != 10))
  | [] => rfl
  | c :: l => by
    have ih := skip_true l
    by_cases h : c = 10
    · subst h
      conv => lhs; unfold skip
      rw [if_pos rfl, List.takeWhile_cons, if_neg (by decide), List.dropWhile_cons, if_neg (by decide)]
      conv => rhs; unfold skip
      rw [if_pos rfl]
      simp
    · have hn : (c != 10) = true := by simpa using h
      rw [List.takeWhile_cons, if_pos hn, List.dropWhile_cons, if_pos hn, List.length_cons]
      conv => lhs; unfold skip
      rw [if_neg h]
      by_cases h2 : c = 35
      · rw [if_pos h2, ih]; omega
      · rw [if_neg h2, if_neg (by simp), ih]; omega
theorem drop_dw : ∀ (p : UInt8 → Bool) (l : Bytes), l.drop (l.takeWhile p).length = l.dropWhile p
  | _, [] => rfl
  | p, c :: l => by
    by_cases h : p c = true
    · rw [List.takeWhile_cons, if_pos h, List.dropWhile_cons, if_pos h, List.length_cons, List.drop_succ_cons]
      exact drop_dw p l
    · rw [List.takeWhile_cons, if_neg h, List.dropWhile_cons, if_neg h]; rfl
/-- what is skipped says nothing -/
theorem lx_skip : ∀ (n p : Nat) (l : Bytes), l.length ≤ n → lx p l = lx (p + skip false l) (l.drop (skip false l))
  | _, _, [], _ => rfl
  | 0, _, _ :: _, h => absurd h (Nat.not_succ_le_zero _)
  | n + 1, p, c :: l, h => by
    rw [List.length_cons] at h
    by_cases h10 : c = 10
    · subst h10
      rw [lx_blank blank10, lx_skip n (p + 1) l (by omega)]
      conv => rhs; unfold skip
      rw [if_pos rfl, show p + (1 + skip false l) = p + 1 + skip false l by omega, show 1 + skip false l = skip false l + 1 by omega, List.drop_succ_cons]
    · by_cases h35 : c = 35
      · subst h35
        have d := dw_le (· != 10) l
        rw [lx_remark, lx_skip n _ _ (by omega)]
        conv => rhs; unfold skip
        rw [if_neg (by decide), if_pos rfl, skip_true l]
        generalize hk : (l.takeWhile (· != 10)).length = k
        have hd : l.dropWhile (· != 10) = l.drop k := by rw [← hk, drop_dw]
        rw [hd]
        generalize skip false (l.drop k) = m
        rw [List.drop_drop, show p + 1 + k + m = p + (1 + (k + m)) by omega, show 1 + (k + m) = (k + m) + 1 by omega, List.drop_succ_cons]
      · cases hb : isBlank c with
        | true =>
          rw [lx_blank hb, lx_skip n (p + 1) l (by omega)]
          conv => rhs; unfold skip
          rw [if_neg h10, if_neg h35, if_neg (by rw [hb]; decide), show p + (1 + skip false l) = p + 1 + skip false l by omega, show 1 + skip false l = skip false l + 1 by omega, List.drop_succ_cons]
        | false =>
          conv => rhs; unfold skip
          rw [if_neg h10, if_neg h35, if_pos (by rw [hb]; decide)]
          rfl
/-- behind what is skipped stands a token, or the end -/
theorem skip_head : ∀ (r : Bool) (l : Bytes) (c : UInt8) (m : Bytes), l.drop (skip r l) = c :: m → isBlank c = false ∧ c ≠ 35
  | _, [], c, m, h => by cases h
  | r, b :: l, c, m, h => by
    unfold skip at h
    by_cases h10 : b = 10
    · rw [if_pos h10, show 1 + skip false l = skip false l + 1 by omega, List.drop_succ_cons] at h
      exact skip_head _ _ _ _ h
    · rw [if_neg h10] at h
      by_cases h35 : b = 35
      · rw [if_pos h35, show 1 + skip true l = skip true l + 1 by omega, List.drop_succ_cons] at h
        exact skip_head _ _ _ _ h
      · rw [if_neg h35] at h
        by_cases hc : (!r && !isBlank b) = true
        · rw [if_pos hc] at h
          cases h
          refine ⟨?_, h35⟩
          cases r <;> cases hb : isBlank b <;> simp [hb] at hc ⊢
        · rw [if_neg hc, show 1 + skip r l = skip r l + 1 by omega, List.drop_succ_cons] at h
          exact skip_head _ _ _ _ h
/-- a token in form -/
def tokOk : Tok → Prop
  | .name w => w ≠ [] ∧ (∀ c ∈ w, isLetter c = true) ∧ w.length ≤ 8
  | .num n => n ≤ 1000000000
  | .sign c => c = 59
  | .last => True
theorem tw_all (p : UInt8 → Bool) : ∀ (l : Bytes), ∀ c ∈ l.takeWhile p, p c = true
  | [], c, h => by cases h
  | b :: l, c, h => by
    by_cases hb : p b = true
    · rw [List.takeWhile_cons, if_pos hb] at h
      rcases List.mem_cons.mp h with e | h
      · rw [e]; exact hb
      · exact tw_all p l c h
    · rw [List.takeWhile_cons, if_neg hb] at h; cases h
theorem number_le {l : Bytes} {n : Nat} (h : numberOf l = some n) : n ≤ 1000000000 := by
  unfold numberOf NUMBER at h
  split at h
  · cases h
  · cases h; omega
theorem token_ok {l : Bytes} {x : Tok × Nat} (h : token l = some x) : tokOk x.1 ∧ x.1 ≠ .last := by
  cases l with
  | nil => cases h
  | cons b r =>
    unfold token at h
    dsimp only at h
    split at h
    · rename_i hb
      split at h
      · cases h
      · rename_i hl
        cases h
        refine ⟨⟨?_, tw_all _ _, by unfold NAME at hl; omega⟩, by simp⟩
        rw [List.takeWhile_cons, if_pos hb]; simp
    · split at h
      · rw [Option.map_eq_some_iff] at h
        obtain ⟨n, hn, rfl⟩ := h
        exact ⟨number_le hn, by simp⟩
      · split at h
        · rename_i hs
          cases h
          have e : b = 59 := by simpa [SIGNS] using hs
          subst e
          exact ⟨rfl, by simp⟩
        · cases h
/-- tokens in form: the end stands at the end alone -/
structure ToksOk (ts : Toks) : Prop where
  ok : ∀ m ∈ ts, tokOk m.tok
  fin : ∃ p r, ts = r ++ [⟨p, .last⟩] ∧ ∀ m ∈ r, m.tok ≠ .last
theorem ToksOk.cons {m : PTok} {ts : Toks} (h : tokOk m.tok) (hl : m.tok ≠ .last) (k : ToksOk ts) : ToksOk (m :: ts) := by
  obtain ⟨ok, p, r, e, n⟩ := k
  refine ⟨fun x hx => ?_, p, m :: r, by rw [e]; rfl, fun x hx => ?_⟩
  · rcases List.mem_cons.mp hx with z | z
    · rw [z]; exact h
    · exact ok x z
  · rcases List.mem_cons.mp hx with z | z
    · rw [z]; exact hl
    · exact n x z
theorem lx_ok : ∀ (n p : Nat) (l : Bytes) (ts : Toks), l.length ≤ n → lx p l = .ok ts → ToksOk ts
  | _, p, [], ts, _, h => by
    rw [lx_nil] at h; cases h
    exact ⟨fun m hm => by rw [List.mem_singleton.mp hm]; trivial, p, [], rfl, fun m hm => by cases hm⟩
  | 0, _, _ :: _, _, h, _ => absurd h (Nat.not_succ_le_zero _)
  | n + 1, p, c :: l, ts, hn, h => by
    rw [List.length_cons] at hn
    cases hb : isBlank c with
    | true => rw [lx_blank hb] at h; exact lx_ok n _ l ts (by omega) h
    | false =>
      by_cases h35 : c = 35
      · subst h35
        rw [lx_remark] at h
        exact lx_ok n _ _ ts (by have := dw_le (· != 10) l; omega) h
      · rw [lx_token hb h35] at h
        cases ht : token (c :: l) with
        | none => rw [ht] at h; cases h
        | some x =>
          rw [ht] at h
          dsimp only at h
          have ⟨t1, t2⟩ := token_pos ht
          cases hr : lx (p + x.2) ((c :: l).drop x.2) with
          | error f => rw [hr] at h; cases h
          | ok us =>
            rw [hr] at h
            have e : ts = ⟨p, x.1⟩ :: us := by cases h; rfl
            rw [e]
            have ⟨a, b⟩ := token_ok ht
            exact (lx_ok n _ _ us (by rw [List.length_drop, List.length_cons]; omega) hr).cons a b
theorem tokens_ok {b : Bytes} {ts : Toks} (h : tokens b = .ok ts) : ToksOk ts := by
  unfold tokens at h
  split at h
  · cases h
  · exact lx_ok _ _ _ _ (Nat.le_refl _) h
end Lp
namespace Lp
open VasedBase
/-- what the program has lexed when it stands at p -/
structure LexSt (b : Bytes) (p : Nat) (ts : Toks) : Prop where
  le : p ≤ b.length
  eq : lx 0 b = (lx p (b.drop p)).map fun l => ts ++ l
theorem map_map' {E A B C : Type} (f : A → B) (g : B → C) (x : Except E A) : (x.map f).map g = x.map fun a => g (f a) := by cases x <;> rfl
theorem map_id' {E A : Type} (x : Except E A) (f : A → A) (h : ∀ a, f a = a) : x.map f = x := by
  cases x with
  | error _ => rfl
  | ok a => show Except.ok (f a) = _; rw [h]
theorem lexSt_start (b : Bytes) : LexSt b 0 [] := ⟨Nat.zero_le _, by rw [List.drop_zero]; exact (map_id' _ _ fun _ => rfl).symm⟩
theorem lexSt_skip {b : Bytes} {p : Nat} {ts : Toks} (k : LexSt b p ts) : LexSt b (p + skip false (b.drop p)) ts := by
  have h := skip_le false (b.drop p)
  rw [List.length_drop] at h
  have hp := k.le
  refine ⟨by omega, ?_⟩
  rw [k.eq, lx_skip _ p (b.drop p) (Nat.le_refl _), List.drop_drop]
theorem lexSt_end {b : Bytes} {p : Nat} {ts : Toks} (k : LexSt b p ts) (h : b.length ≤ p) (hz : b.length ≤ 4096) : tokens b = .ok (ts ++ [⟨b.length, .last⟩]) := by
  have e : p = b.length := Nat.le_antisymm k.le h
  unfold tokens
  rw [if_neg (by unfold TEXT; omega)]
  show lx 0 b = _
  rw [k.eq, e, List.drop_length]
  rfl
theorem tokens_long {b : Bytes} (h : 4096 < b.length) : tokens b = .error ⟨1, 4096⟩ := by
  unfold tokens
  exact if_pos (show TEXT < b.length from h)
/-- the place is that of a token -/
structure LexAt (b : Bytes) (p : Nat) (ts : Toks) (c : UInt8) (m : Bytes) : Prop where
  st : LexSt b p ts
  hd : b.drop p = c :: m
  nb : isBlank c = false
  nr : c ≠ 35
theorem lexAt_skip {b : Bytes} {p : Nat} {ts : Toks} (k : LexSt b p ts) (h : p + skip false (b.drop p) < b.length) : ∃ c m, LexAt b (p + skip false (b.drop p)) ts c m := by
  have k2 := lexSt_skip k
  cases e : b.drop (p + skip false (b.drop p)) with
  | nil =>
    have := congrArg List.length e
    rw [List.length_drop] at this
    exact absurd this (by simp; omega)
  | cons c m =>
    obtain ⟨h1, h2⟩ := skip_head false (b.drop p) c m (by rw [List.drop_drop]; exact e)
    exact ⟨c, m, k2, e, h1, h2⟩
theorem lexAt_bad {b : Bytes} {p : Nat} {ts : Toks} {c : UInt8} {m : Bytes} (k : LexAt b p ts c m) (h : token (c :: m) = none) (hz : b.length ≤ 4096) : tokens b = .error ⟨2, p⟩ := by
  unfold tokens
  rw [if_neg (by unfold TEXT; omega)]
  show lx 0 b = _
  rw [k.st.eq, k.hd, lx_token k.nb k.nr, h]
  rfl
theorem lexAt_some {b : Bytes} {p : Nat} {ts : Toks} {c : UInt8} {m : Bytes} {x : Tok × Nat} (k : LexAt b p ts c m) (h : token (c :: m) = some x) : LexSt b (p + x.2) (ts ++ [⟨p, x.1⟩]) := by
  have ⟨t1, t2⟩ := token_pos h
  have e := congrArg List.length k.hd
  rw [List.length_drop] at e
  have := k.st.le
  refine ⟨by omega, ?_⟩
  rw [k.st.eq, k.hd, lx_token k.nb k.nr, h]
  dsimp only
  rw [map_map', ← List.drop_drop, k.hd]
  congr 1
  funext l
  rw [List.append_assoc]
  rfl
theorem let_dig {c : UInt8} (h : isLetter c = true) : isDigit c = false := by
  unfold isLetter at h
  unfold isDigit
  have := of_decide_eq_true h
  exact decide_eq_false (by omega)
theorem tok_sign (m : Bytes) : token (59 :: m) = some (.sign 59, 1) := rfl
theorem tok_word {c : UInt8} {m : Bytes} (h : isLetter c = true) : token (c :: m) = if 8 < ((c :: m).takeWhile isLetter).length then none else some (.name ((c :: m).takeWhile isLetter), ((c :: m).takeWhile isLetter).length) := by
  unfold token
  dsimp only
  rw [if_pos h]
  rfl
theorem tok_num {c : UInt8} {m : Bytes} (h : isDigit c = true) : token (c :: m) = (numberOf ((c :: m).takeWhile isDigit)).map fun n => (.num n, ((c :: m).takeWhile isDigit).length) := by
  have hl : isLetter c = false := by
    cases e : isLetter c with
    | false => rfl
    | true => rw [let_dig e] at h; cases h
  unfold token
  dsimp only
  rw [if_neg (by rw [hl]; exact Bool.false_ne_true), if_pos h]
theorem tok_none {c : UInt8} {m : Bytes} (h1 : isLetter c = false) (h2 : isDigit c = false) (h3 : c ≠ 59) : token (c :: m) = none := by
  unfold token
  dsimp only
  rw [if_neg (by rw [h1]; exact Bool.false_ne_true), if_neg (by rw [h2]; exact Bool.false_ne_true), if_neg (by simpa [SIGNS] using h3)]
theorem skip_cons {r : Bool} {c : UInt8} {l : Bytes} : skip r (c :: l) = if c = 10 then 1 + skip false l else if c = 35 then 1 + skip true l else if (!r && !isBlank c) = true then 0 else 1 + skip r l := by
  conv => lhs; unfold skip
theorem tw_at {p : UInt8 → Bool} {c : UInt8} {l : Bytes} : ((c :: l).takeWhile p).length = if p c = true then 1 + (l.takeWhile p).length else 0 := by
  rw [List.takeWhile_cons]
  split <;> simp
  omega
/-- the value of digits, from the left -/
def dec (n : Nat) (l : Bytes) : Nat := l.foldl (fun n b => 10 * n + (b.toNat - 48)) n
theorem dec_le : ∀ (l : Bytes) (n : Nat), (∀ c ∈ l, isDigit c = true) → dec n l < (n + 1) * 10 ^ l.length
  | [], n, _ => by show n < (n + 1) * 1; omega
  | c :: l, n, h => by
    have hc := h c List.mem_cons_self
    unfold isDigit at hc
    have hc := of_decide_eq_true hc
    have ih := dec_le l (10 * n + (c.toNat - 48)) fun x hx => h x (List.mem_cons_of_mem _ hx)
    show dec (10 * n + (c.toNat - 48)) l < _
    refine Nat.lt_of_lt_of_le ih ?_
    rw [List.length_cons, Nat.pow_succ, Nat.mul_comm (10 ^ l.length) 10, ← Nat.mul_assoc]
    exact Nat.mul_le_mul_right _ (by omega)
theorem number_of {l : Bytes} (h : l ≠ []) : numberOf l = if 10 < l.length ∨ (1 < l.length ∧ l.head? = some 48) ∨ 1000000000 < dec 0 l then none else some (dec 0 l) := by
  unfold numberOf NUMBER decimal dec
  by_cases c : 10 < l.length ∨ (1 < l.length ∧ l.head? = some 48) ∨ 1000000000 < l.foldl (fun n b => 10 * n + (b.toNat - 48)) 0
  · rw [if_pos (.inr c), if_pos c]
  · rw [if_neg (fun z => z.elim h c), if_neg c]
end Lp
set_option maxRecDepth 100000
set_option maxHeartbeats 2000000
/-! Values as they stand: judgements whose wish sees the value itself and the state. -/
namespace Lp
open PySem PySem.Spec PyProof.Rows L2
abbrev Pins := List (Addr × Obj)
/-- what is wanted of a value as it stands, with the state behind it -/
abbrev SV := Value → Hp → Shared → Prop
abbrev TR := L2.St → Hp → Shared → SV → Prop
abbrev TAR := L2.St → Hp → Shared → (List Value → Hp → Shared → Prop) → Prop
structure EndR where
  nx : L2.St → Hp → Shared → Prop
  rt : SV
abbrev TSR := EndR → L2.St → Hp → Shared → Prop
def ER (X : Cx) (pins : Pins) (σ : L2.St) (Q : SV) (u : Value) (z : Shared) : Prop := ∃ G, Inv X pins σ G z ∧ Q u G z
def AR (X : Cx) (pins : Pins) (σ : L2.St) (Q : List Value → Hp → Shared → Prop) (us : List Value) (z : Shared) : Prop := ∃ G, Inv X pins σ G z ∧ Q us G z
def FR (X : Cx) (pins : Pins) (D : EndR) : Flow → Shared → Prop
  | .next, z => ∃ σ G, Inv X pins σ G z ∧ D.nx σ G z
  | .ret u, z => ∃ σ G, Inv X pins σ G z ∧ D.rt u G z
  | _, _ => False
structure PR (X : Cx) (e : Expr) (t : TR) : Prop where
  run : ∀ (pins : Pins) (z : Shared) (σ : L2.St) (G : Hp) (Q : SV), Inv X pins σ G z → t σ G z Q → wpAny (model X.prog X.w) X.A (eval e X.env) (ER X pins σ Q) X.xe z
structure PAR (X : Cx) (es : List Expr) (t : TAR) : Prop where
  run : ∀ (ps : Pos) (pins : Pins) (z : Shared) (σ : L2.St) (G : Hp) (Q : List Value → Hp → Shared → Prop), Inv X pins σ G z → t σ G z Q → wpAny (model X.prog X.w) X.A (spliced (backTo ps (starEach es X.env))) (AR X pins σ Q) X.xe z
structure PSR (X : Cx) (st : Stmt) (t : TSR) : Prop where
  run : ∀ (pins : Pins) (z : Shared) (σ : L2.St) (G : Hp) (D : EndR), Inv X pins σ G z → t D σ G z → wpAny (model X.prog X.w) X.A (exec st X.env) (FR X pins D) X.xe z
structure PSsR (X : Cx) (st : List Stmt) (t : TSR) : Prop where
  run : ∀ (pins : Pins) (z : Shared) (σ : L2.St) (G : Hp) (D : EndR), Inv X pins σ G z → t D σ G z → wpAny (model X.prog X.w) X.A (execs st X.env) (FR X pins D) X.xe z
def up (t : TE) : TR := fun σ G z Q => t σ G fun v G1 => ∀ u y, z.toks ≤ y.toks → RelV v u → Q u G1 y
def upA (t : TA) : TAR := fun σ G z Q => t σ G fun vs G1 => ∀ us y, z.toks ≤ y.toks → Vals vs us → Q us G1 y
def upS (t : TS) : TSR := fun D σ G z => t { nx := fun σ1 G1 => ∀ y, z.toks ≤ y.toks → D.nx σ1 G1 y, rt := fun v G1 => ∀ u y, z.toks ≤ y.toks → RelV v u → D.rt u G1 y } σ G
section
variable {X : Cx} {e : Expr} {es : List Expr} {st : Stmt} {sts : List Stmt}
theorem wp_le {α : Type} {M : Model} {A : Around} {t : Sem α} {Q Q' : α → Shared → Prop} {E : Value → Shared → Prop} {z : Shared} (h : wpAny M A t Q E z) (k : ∀ a y, z.toks ≤ y.toks → Q a y → Q' a y) : wpAny M A t Q' E z :=
  wpAny_mono (PySem.wpAny_toks h) (fun a y q => k a y q.1 q.2) fun _ _ q => q.2
theorem pr_up {t : TE} (h : PE X e t) : PR X e (up t) := ⟨fun pins z σ G Q I q => wp_le (h.run pins z σ G _ I q) fun u y le ⟨v, G1, J, r, k⟩ => ⟨G1, J, k u y le r⟩⟩
theorem par_up {t : TA} (h : PA X es t) : PAR X es (upA t) := ⟨fun ps pins z σ G Q I q => wp_le (h.run ps pins z σ G _ I q) fun us y le ⟨vs, G1, J, r, k⟩ => ⟨G1, J, k us y le r⟩⟩
theorem fr_up {pins : Pins} {D : EndR} {z y : Shared} {f : Flow} (le : z.toks ≤ y.toks) (q : SP X pins { nx := fun σ1 G1 => ∀ y, z.toks ≤ y.toks → D.nx σ1 G1 y, rt := fun v G1 => ∀ u y, z.toks ≤ y.toks → RelV v u → D.rt u G1 y } f y) : FR X pins D f y := by
  cases f with
  | next => obtain ⟨σ1, G1, J, k⟩ := q; exact ⟨σ1, G1, J, k y le⟩
  | ret u => obtain ⟨v, σ1, G1, J, r, k⟩ := q; exact ⟨σ1, G1, J, k u y le r⟩
  | brk => obtain ⟨_, _, _, k⟩ := q; exact k
  | cont => obtain ⟨_, _, _, k⟩ := q; exact k
theorem psr_up {t : TS} (h : PS X st t) : PSR X st (upS t) := ⟨fun pins z σ G D I q => wp_le (h.run pins z σ G _ I q) fun f y le k => fr_up le k⟩
theorem pssr_up {t : TS} (h : PSs X sts t) : PSsR X sts (upS t) := ⟨fun pins z σ G D I q => wp_le (h.run pins z σ G _ I q) fun f y le k => fr_up le k⟩
/-- one behind another -/
def tSeqR (t u : TSR) : TSR := fun D σ G z => t { D with nx := u D } σ G z
theorem pssr_cons {t u : TSR} (h1 : PSR X st t) (h2 : PSsR X sts u) : PSsR X (st :: sts) (tSeqR t u) := ⟨fun pins z σ G D I q => by
  refine wpAny_execs_cons (thn (h1.run pins z σ G _ I q) fun f y k => ?_)
  cases f with
  | next => obtain ⟨σ1, G1, J, n⟩ := k; exact h2.run pins y σ1 G1 D J n
  | ret u => exact k
  | brk => exact k.elim
  | cont => exact k.elim⟩
theorem pssr_one {t : TSR} (h1 : PSR X st t) : PSsR X [st] t := ⟨fun pins z σ G D I q => by
  refine wpAny_execs_cons (thn (h1.run pins z σ G _ I q) fun f y k => ?_)
  cases f with
  | next => exact wpAny_execs_nil k
  | ret u => exact k
  | brk => exact k.elim
  | cont => exact k.elim⟩
def tRetR (t : TR) : TSR := fun D σ G z => t σ G z D.rt
theorem psr_ret {t : TR} {ps : Pos} (h : PR X e t) : PSR X (.Return (some e) ps) (tRetR t) := ⟨fun pins z σ G D I q =>
  wpAny_Return_some (thn (h.run pins z σ G _ I q) fun u y ⟨G1, J, k⟩ => ⟨σ, G1, J, k⟩)⟩
def tIfR (c : TT) (t u : TSR) : TSR := fun D σ G z => c σ G fun b G1 => ∀ y, z.toks ≤ y.toks → if b = true then t D σ G1 y else u D σ G1 y
theorem psr_if {c : Expr} {a b : List Stmt} {tc : TT} {t u : TSR} {ps : Pos} (hc : PT X c tc) (ha : PSsR X a t) (hb : PSsR X b u) : PSR X (.If c a b ps) (tIfR tc t u) := ⟨fun pins z σ G D I q => by
  refine wpAny_If (wp_le (hc.run pins z σ G _ I q) fun d y le ⟨G1, J, k⟩ => ?_)
  have k := k y le
  cases d with
  | true => exact ha.run pins y σ G1 D J k
  | false => exact hb.run pins y σ G1 D J k⟩
def tWhileR (c : TT) (tb : TSR) : TSR := fun D σ G z => ∃ W : Nat → L2.St → Hp → Shared → Prop, (∃ m, W m σ G z) ∧ ∀ m σ1 G1 z1, W m σ1 G1 z1 →
  c σ1 G1 fun b G2 => ∀ y, z1.toks ≤ y.toks → if b = true then ∃ V : L2.St → Hp → Shared → Prop, (∀ σ3 G3 z3, V σ3 G3 z3 → ∃ m', m' < m ∧ W m' σ3 G3 z3) ∧ tb { D with nx := V } σ1 G2 y else D.nx σ1 G2 y
theorem psr_while {c : Expr} {body : List Stmt} {tc : TT} {tb : TSR} {ps : Pos} (po : PassesOwn (model X.prog X.w) X.A X.env X.xe) (hc : PT X c tc) (hb : PSsR X body tb) : PSR X (.While c body [] ps) (tWhileR tc tb) := ⟨fun pins z σ G D I ⟨W, ⟨m0, w0⟩, turn⟩ => by
  refine wpAny_While (codeAny_whileLoop (fun n y => ∃ σ1 G1, Inv X pins σ1 G1 y ∧ W n σ1 G1 y) ?_ m0 ⟨σ, G, I, w0⟩)
  rintro n z1 ⟨σ1, G1, I1, w1⟩
  refine wpAny_passesOwn po (wp_le (hc.run pins z1 σ1 G1 _ I1 (turn n σ1 G1 z1 w1)) fun b y le ⟨G2, J, k⟩ => ?_)
  have k := k y le
  cases b with
  | true =>
    obtain ⟨V, hV, k⟩ := k
    rw [if_pos rfl]
    refine wpAny_passesOwn po (thn (hb.run pins y σ1 G2 _ J k) fun f z3 q3 => ?_)
    cases f with
    | next =>
      obtain ⟨σ3, G3, J3, n3⟩ := q3
      obtain ⟨m', lt, w3⟩ := hV σ3 G3 z3 n3
      exact ⟨m', lt, σ3, G3, J3, w3⟩
    | ret u => exact q3
    | brk => exact q3.elim
    | cont => exact q3.elim
  | false => exact wpAny_execs_nil ⟨σ1, G2, J, k⟩⟩
def tSetR (i : Nat) (t : TR) : TSR := fun D σ G z => t σ G z fun u G1 y => ∃ v, RelV v u ∧ ∀ x, y.toks ≤ x.toks → D.nx (σ.set i (some v)) G1 x
theorem psr_set {i : Nat} {x : Str} {t : TR} {ps ps' : Pos} (nd : X.N.Nodup) (hi : X.N[i]? = some x) (hx : X.env.scope.names.lookup x = some .local) (h : PR X e t) (hs : swapsWith e (some (.Name x ps')) ps.line X.env = pure false := by rfl) : PSR X (.Assign [.Name x ps'] e ps) (tSetR i t) := ⟨fun pins z σ G D I q =>
  wpAny_Assign_Name (thn (h.run pins z σ G _ I q) fun u y ⟨G1, J, v, r, k⟩ => wp_le (store_ok (Q := fun _ x => Inv X pins (σ.set i (some v)) G1 x) J nd hi (.inl hx) r (fun _ J1 => J1) (.inr hx)) fun _ x le J1 => ⟨_, G1, J1, k x le⟩) hs⟩
def tNilR : TAR := fun _ G z Q => Q [] G z
def tConsR (t : TR) (ta : TAR) : TAR := fun σ G z Q => t σ G z fun u G1 y => ta σ G1 y fun us G2 x => Q (u :: us) G2 x
theorem par_nil : PAR X [] tNilR := ⟨fun _ _ z _ G _ I q => Calls.spliced_nil ⟨G, I, q⟩⟩
theorem par_cons {t : TR} {ta : TAR} (h : PR X e t) (ha : PAR X es ta) (hs : starEach (e :: es) X.env = (false, eval e X.env) :: starEach es X.env := by rfl) : PAR X (e :: es) (tConsR t ta) := ⟨fun ps pins z σ G Q I q => by
  rw [hs]
  exact Calls.spliced_cons (thn (h.run pins z σ G _ I q) fun u y ⟨G1, J, k⟩ => thn (ha.run ps pins y σ G1 _ J k) fun us x ⟨G2, J2, k2⟩ => ⟨G2, J2, k2⟩)⟩
end
/-- a def's promise where the wish sees value and state -/
abbrev SpR := List V → Hp → Shared → SV → XK → Prop
def CRR (P : Program) (w : World) (outer : List Env) (G : Hp) (z : Shared) (Q : SV) (E : XK) : Result → Shared → Prop
  | .ok (.ret u), y => ∃ G1, y.os = z.os ∧ AllBare y.gens ∧ Un (frs outer) [] G G1 z.heap y.heap ∧ HOk P w G1 y.heap ∧ Q u G1 y
  | .ok _, _ => False
  | .error e, y => L2.CX P w outer G z E e y
structure FnR (P : Program) (w : World) (K : PySem.W.Frag) (mg : Str → Option Value) (base : Heap) (k : Nat) (f : Addr) (fd : FuncData) (ps : List Str) (sp : SpR) : Prop where
  len : ∀ vs H z Q E, sp vs H z Q E → vs.length = ps.length
  run : ∀ (A : Around) (outer : List Env) (z : Shared) (G : Hp) (args : Args) (us : List Value) (vs : List V) (Q : SV) (E : XK), Room k A → Env0 P w K mg base A outer z G → BindsTo z fd args (ps.zip us) → Vals vs us → sp vs G z Q E → codeAny (model P w) A (.call (.ref f) args) (CRR P w outer G z Q E) z
theorem FnR.mono {P : Program} {w : World} {K : PySem.W.Frag} {mg : Str → Option Value} {base : Heap} {j k : Nat} {f : Addr} {fd : FuncData} {ps : List Str} {sp : SpR} (F : FnR P w K mg base j f fd ps sp) (h : j ≤ k) : FnR P w K mg base k f fd ps sp := ⟨F.len, fun A outer z G args us vs Q E hr => F.run A outer z G args us vs Q E (hr.mono h)⟩
structure OkR (P : Program) (w : World) (K : PySem.W.Frag) (mg : Str → Option Value) (base : Heap) (k : Nat) (x : Str) (sp : SpR) : Prop where
  ex : ∃ (f : Addr) (fd : FuncData) (ps : List Str), FnR P w K mg base k f fd ps sp ∧ mg x = some (.ref f) ∧ PySem.W.keepIn K (.ref f) = true ∧ Binds K fd ps []
structure MOkR (P : Program) (w : World) (K : PySem.W.Frag) (mg : Str → Option Value) (base : Heap) (k : Nat) (C : Addr) (m : Str) (sp : SpR) : Prop where
  ex : ∃ (f : Addr) (fd : FuncData) (ps : List Str), FnR P w K mg base k f fd ps sp ∧ Meth K C m f ∧ Binds K fd ps []
section
variable {P : Program} {w : World} {K : PySem.W.Frag} {mg : Str → Option Value} {base : Heap}
theorem fnr_mk {x qual : Str} {st : Stmt} {N ps : List Str} {k : Nat} {sp : SpR} {f : Addr} {fd : FuncData} (F : Fun K x qual st f fd) (S : FnScope N ps (defScope st)) (len : ∀ vs H z Q E, sp vs H z Q E → vs.length = ps.length)
    (body : ∀ (cdv : Value) (A : Around) (outer : List Env) (z : Shared) (G : Hp) (vs : List V) (Q : SV) (E : XK), Room k (A.deeper (envOfC qual (defScope st) z.heap.objs.size f cdv)) →
      Takes (cxOf (L2.CX P w) P w K mg base N qual (defScope st) f cdv A outer z G E) (fun cls d _ H => E cls d H) → PassesOwn (model P w) (A.deeper (envOfC qual (defScope st) z.heap.objs.size f cdv)) (envOfC qual (defScope st) z.heap.objs.size f cdv) (cxOf (L2.CX P w) P w K mg base N qual (defScope st) f cdv A outer z G E).xe → sp vs G z Q E →
      ∃ t, PSsR (cxOf (L2.CX P w) P w K mg base N qual (defScope st) f cdv A outer z G E) (defBody st) t ∧ ∀ y, z.toks ≤ y.toks → t { nx := fun _ G1 => Q .none G1, rt := Q } (start N vs) G y) : FnR P w K mg base (k + 1) f fd ps sp := by
  obtain ⟨oc, od, kV, doc, pm, an, cdv, ct, osl, rfl, lk, hcd⟩ := F.ex
  refine ⟨len, fun A outer z G args us vs Q E hr e0 hb r q => ?_⟩
  have KX : K.In z.heap := e0.mod.kin.keeps fun b o e => (e0.bs b o e).1
  have kinds : ∀ y ∈ ps.zip us, (defScope st).names.lookup y.1 = some .local ∨ ((defScope st).names.lookup y.1 = some .cell ∧ ((cellsFrom (z.heap.objs.size + 1) (defScope st).names []).lookup y.1).isSome = true) := by
    rintro ⟨n, v⟩ hy
    exact (S.par n (List.of_mem_zip hy).1).imp id fun c => ⟨c, PySem.W.cellsFrom_some _ _ _ (.inl c)⟩
  refine codeAny_call_function hr.depth (KX _ _ lk) rfl S.co S.gen rfl (PySem.W.codeRec_of KX hcd) (hb _ _ _ _ ?_)
  refine PySem.wpAny_with_toks (Nat.le_refl z.toks) (wpAny_newFunctionEnv_cells S.kind kinds fun env he y fr le => ?_)
  cases he
  refine ⟨(e0.mod.nolimit.keeps fun b o e => (e0.bs b o e).1).keeps fr.toInCall.keep, codeAny_func ?_⟩
  obtain ⟨t, ht, hq⟩ := body cdv A outer z G vs Q E (hr.deeper _) (takes_of rfl rfl rfl rfl) (passes_of (X := cxOf (L2.CX P w) P w K mg base N qual (defScope st) f cdv A outer z G E) rfl) q
  have I := inv_start (CX := L2.CX P w) (E := E) S hr.hd e0 (len _ _ _ _ _ q) r fr
  refine wpAny_mono (ht.run [] y (start N vs) G _ I (hq y le)) (fun fl x hs => ?_) fun _ _ hs => hs
  cases fl with
  | ret u => obtain ⟨_, G1, J, k⟩ := hs; exact ⟨G1, J.os, J.bare, J.base, J.hok, k⟩
  | next => obtain ⟨_, G1, J, k⟩ := hs; exact ⟨G1, J.os, J.bare, J.base, J.hok, k⟩
  | brk => exact hs.elim
  | cont => exact hs.elim
end
section
variable {X : Cx} {k j : Nat} {x : Str} {sp : SpR} {W : WX} {p pos : Pos} {e : Expr} {es : List Expr} {t : TAR}
theorem run_fr {f : Addr} {fd : FuncData} {ps : List Str} {pins : Pins} {σ : L2.St} {G : Hp} {z : Shared} {Q : SV} {us : List Value} {vs : List V} (F : FnR X.prog X.w X.K X.mg X.base k f fd ps sp) (hr : Room k X.A) (hb : Binds X.K fd ps []) (tk : Takes X W)
    (I : Inv X pins σ G z) (r : Vals vs us) (h : sp vs G z (fun u G1 y => z.toks ≤ y.toks → Q u G1 y) (WE W σ)) : wpAny (model X.prog X.w) X.A (call (.ref f) us) (ER X pins σ Q) X.xe z := by
  have hl : us.length = ps.length := by rw [← r.length]; exact F.len _ _ _ _ _ h
  have b := hb z us I.kIn (by rw [List.append_nil]; exact hl)
  rw [List.append_nil] at b
  refine wpAny_call (codeAny_mono (PySem.codeAny_toks_of (Nat.le_refl z.toks) (F.run X.A X.stack z G ⟨us, []⟩ us vs _ (WE W σ) hr I.env0 b r h)) fun r y hq => ?_)
  obtain ⟨le, hq⟩ := hq
  cases r with
  | error e => exact passAt tk σ pins G z e y I hq
  | ok fl =>
    cases fl with
    | ret u =>
      obtain ⟨G1, os, bare, un, hok, q⟩ := hq
      exact ⟨G1, I.call' (ch := []) os un hok bare (fun b z => absurd z (by simp)), q le⟩
    | next => exact hq.elim
    | brk => exact hq.elim
    | cont => exact hq.elim
def tCallR (sp : SpR) (E : L2.St → XK) (t : TAR) : TR := fun σ G z Q => t σ G z fun us G1 y => ∃ vs, Vals vs us ∧ sp vs G1 y (fun u G2 x => y.toks ≤ x.toks → Q u G2 x) (E σ)
theorem pr_k (c : OkR X.prog X.w X.K X.mg X.base k x sp) (hr : Room j X.A) (tk : Takes X W) (ha : PAR X (e :: es) t) (hk : k ≤ j := by decide) (hg : Gl X x := by rfl)
    (hdb : (x == ("__debug__" : Str)) = false := by decide) (he : starEach (e :: es) X.env = (false, eval e X.env) :: starEach es X.env := by rfl) (hpl : (backTo pos (starEach es X.env)).any (·.1) = false := by rfl) :
    PR X (.Call (.Name x p) (e :: es) [] pos) (tCallR sp (WE W) t) := by
  obtain ⟨f, fd, ps, F, hm, kp, b⟩ := c.ex
  refine ⟨fun pins z σ G Q I q => wpAny_Call_Name_kw (ld_glob I hg hm ?_ hdb)⟩
  exact PySem.W.callWith_K (h₀ := X.base) I.ok.mod.kin kp (thn (ha.run pos pins z σ G _ I q) fun us y ⟨G1, J, vs, r, k⟩ => ⟨J.kIn, run_fr F (hr.mono hk) b tk J r k⟩) he hpl
def tMethR (C : Addr) (m : Str) (sp : SpR) (E : L2.St → XK) (to : TE) : TR := fun σ G z Q => to σ G fun v G1 => ∃ a dx fs, v = .ref a ∧ G1 a = some (.ins C dx fs) ∧ fs.lookup m = none ∧ ∀ y, z.toks ≤ y.toks → sp [.ref a] G1 y (fun u G2 x => y.toks ≤ x.toks → Q u G2 x) (E σ)
theorem pr_m0 {C : Addr} {m : Str} {o : Expr} {apos : Pos} {to : TE} {pl : Sem Bool} (c : MOkR X.prog X.w X.K X.mg X.base k C m sp) (cl : Cls X.K C) (hr : Room j X.A) (tk : Takes X W) (he : PE X o to) (hk : k ≤ j := by decide)
    (ht : eval (.Call (.Attribute o m apos) [] [] pos) X.env = (do
      let me ← eval o X.env
      standAt apos.atName
      let (f, first) ← holding [me] (getMethod me m pl)
      callWith pos f first (backTo pos (starEach [] X.env)) (backToKw pos (keywordEach [] X.env))) := by rfl) : PR X (.Call (.Attribute o m apos) [] [] pos) (tMethR C m sp (WE W) to) := by
  obtain ⟨f, fd, ps, F, hm, b⟩ := c.ex
  refine ⟨fun pins z σ G Q I q => PySem.W.methodCall_KW (pl := pl) (wp_le (he.run pins z σ G _ I q) fun u y le ⟨v, G1, J, rv, a, dx, fs, ev, ea, l, k⟩ => ?_) ht⟩
  subst ev
  cases (show u = Value.ref a from rv)
  refine getmeth_ok J ea cl hm l ?_
  exact PySem.W.callWith_K0 (first := [.ref a]) J.kIn hm.kp (run_fr (us := [.ref a]) (vs := [.ref a]) F (hr.mono hk) b tk J (.cons rfl .nil) (k y le))
/-- o.append(e) -/
def tAppR (to : TE) (t : TAR) : TSR := fun D σ G z => to σ G fun v G1 => (∃ a xs, v = .ref a ∧ G1 a = some (.lst xs)) ∧ ∀ y, z.toks ≤ y.toks → t σ G1 y fun us G2 x => ∃ a xs w u, v = .ref a ∧ us = [u] ∧ RelV w u ∧ G2 a = some (.lst xs) ∧ xs.length < sizeLine ∧ ∀ s, x.toks ≤ s.toks → D.nx σ (upd G2 a (.lst (xs ++ [w]))) s
theorem psr_app {o : Expr} {to : TE} {apos cpos : Pos} (ho : PE X o to) (ha : PAR X [e] t)
    (hbase : attributeBase o "append" X.env (eval o X.env) = eval o X.env := by rfl)
    (hfew : ((backTo cpos (starEach [e] X.env)).all (fun q => !q.1) && (backToKw cpos (keywordEach [] X.env)).all (fun q => q.1.isSome)
      && decide ([e].length + ([] : List Keyword).length + (if ([] : List Keyword).isEmpty then 0 else 1) < 30)) = true := by rfl)
    (hline : (apos.endLine == cpos.line) = true := by rfl) (hs : starEach [e] X.env = (false, eval e X.env) :: starEach [] X.env := by rfl) (hplain : (backTo cpos (starEach [] X.env)).any (·.1) = false := by rfl) (hsw : swapsWith (.Call (.Attribute o "append" apos) [e] [] cpos) none pos.line X.env = pure false := by rfl) :
    PSR X (.Expr (.Call (.Attribute o "append" apos) [e] [] cpos) pos) (tAppR to t) := by
  refine ⟨fun pins z σ G D I q => ?_⟩
  refine wpAny_Expr_any (Q := FR X pins D) ?_ I.quiet hsw
  refine wpAny_Call_method_late hbase hfew hline rfl (wp_le (ho.run pins z σ G _ I q) fun v y le ⟨x, G1, J, rx, ⟨a, xs, ex, hl⟩, k⟩ => ?_)
  obtain ⟨h1, h2⟩ := tyV_is (T := "list") J rx (by rw [ex]; exact .inl ⟨rfl, xs, SqL.of hl⟩)
  refine ⟨"list", "list.append", PySem.F.plainAttrs_list, PySem.F.slot_list_append, PySem.F.type_list_append, h1, h2, ?_⟩
  have hA := ha.run cpos pins y σ G1 _ J (k y le)
  rw [hs] at hA ⊢
  refine Calls.callWith_builtin (by show (false || (backTo cpos (starEach [] X.env)).any (·.1)) = false; rw [hplain] <;> rfl) (Calls.evalArgs_plain ?_)
  refine thn hA fun us s2 ⟨G2, J2, a', xs', w, u', e', eu, rw', hl', hz, q2⟩ => ?_
  subst eu
  refine wp_le (mt_append pins s2 σ G2 x [w] v [u'] (fun v G3 => G3 = upd G2 a' (.lst (xs' ++ [w]))) J2 rx (.cons rw' .nil) ⟨a', xs', w, e', rfl, hl', hz, rfl⟩) fun _ s3 le3 ⟨_, G3, J3, _, e3⟩ => ?_
  subst e3
  exact ⟨σ, _, J3, q2 s3 le3⟩
end
end Lp
set_option maxRecDepth 100000
set_option maxHeartbeats 2000000
/-! A token of the script: an object of two fields that are never written again; its value is known as it stands. -/
namespace Lp
open PySem PySem.Spec PyProof.Rows L2
def TkA (C dx a : Addr) : HO := .ext fun h => h.get? a = some (PySem.W.instObj C dx)
def TkD (dx : Addr) (u : Value) (p : Int) : HO := .ext fun h => ∃ mA, h.Ns1 dx mA ∧ mA "value" = some u ∧ ∃ t, mA "place" = some (.int p t)
def TokAt (C : Addr) (H : Hp) (a : Addr) (u : Value) (p : Int) : Prop := ∃ dx, dx ≠ a ∧ H a = some (TkA C dx a) ∧ H dx = some (TkD dx u p)
theorem TokAt.same {C : Addr} {H H' : Hp} {a : Addr} {u : Value} {p : Int} (k : TokAt C H a u p) (e : Same H H') : TokAt C H' a u p := by
  obtain ⟨dx, ne, h1, h2⟩ := k
  exact ⟨dx, ne, e _ _ h1, e _ _ h2⟩
section
variable {X : Cx} {pins : Pins} {σ : L2.St} {H : Hp} {s : Shared} {C a : Addr} {u : Value} {p : Int}
theorem tok_obj (I : Inv X pins σ H s) (k : TokAt C H a u p) : ∃ dx mA, ObjM s.heap a dx C mA ∧ mA "value" = some u ∧ ∃ t, mA "place" = some (.int p t) := by
  obtain ⟨dx, ne, h1, h2⟩ := k
  obtain ⟨e1, _⟩ := I.hok a _ h1
  obtain ⟨⟨mA, n, v, pl⟩, _⟩ := I.hok dx _ h2
  exact ⟨dx, mA, ⟨e1, n, ne⟩, v, pl⟩
end
/-- e.value, e a token -/
def tValR (K : PySem.W.Frag) (te : TE) : TR := fun σ H z Q => te σ H fun x H1 => ∃ a C u p, x = .ref a ∧ TokAt C H1 a u p ∧ Cls K C ∧ NoAttr K C "value" ∧ (∃ v, RelV v u) ∧ ∀ y, z.toks ≤ y.toks → Q u H1 y
def tVal (K : PySem.W.Frag) (te : TE) : TE := fun σ H Q => te σ H fun x H1 => ∃ a C u p v, x = .ref a ∧ TokAt C H1 a u p ∧ Cls K C ∧ NoAttr K C "value" ∧ RelV v u ∧ Q v H1
/-- e.place -/
def tPlc (K : PySem.W.Frag) (te : TE) : TE := fun σ H Q => te σ H fun x H1 => ∃ a C u p, x = .ref a ∧ TokAt C H1 a u p ∧ Cls K C ∧ NoAttr K C "place" ∧ Q (.int p) H1
section
variable {X : Cx} {e : Expr} {te : TE} {pos : Pos}
theorem pr_val (he : PE X e te) (hb : attributeBase e "value" X.env (eval e X.env) = eval e X.env := by rfl) : PR X (.Attribute e "value" pos) (tValR X.K te) := ⟨fun pins z σ G Q I h =>
  attr_of hb (wp_le (he.run pins z σ G _ I h) fun w y le ⟨x, H1, J, r, a, C, u, p, ex, k, c, n, ⟨v, rv⟩, q⟩ => by
    subst ex
    cases (show w = Value.ref a from r)
    obtain ⟨dx, mA, O, hv, _⟩ := tok_obj J k
    exact get_map J.kIn O (c.get _) c.hd n hv (handed_of rv) ⟨H1, J.tok _, q _ (Nat.le_succ_of_le le)⟩)⟩
theorem pe_val (he : PE X e te) (hb : attributeBase e "value" X.env (eval e X.env) = eval e X.env := by rfl) : PE X (.Attribute e "value" pos) (tVal X.K te) := ⟨fun pins z σ G Q I h =>
  attr_of hb (thn (he.run pins z σ G _ I h) fun w y ⟨x, H1, J, r, a, C, u, p, v, ex, k, c, n, rv, q⟩ => by
    subst ex
    cases (show w = Value.ref a from r)
    obtain ⟨dx, mA, O, hv, _⟩ := tok_obj J k
    exact get_map J.kIn O (c.get _) c.hd n hv (handed_of rv) ⟨v, H1, J.tok _, rv, q⟩)⟩
theorem pe_plc (he : PE X e te) (hb : attributeBase e "place" X.env (eval e X.env) = eval e X.env := by rfl) : PE X (.Attribute e "place" pos) (tPlc X.K te) := ⟨fun pins z σ G Q I h =>
  attr_of hb (thn (he.run pins z σ G _ I h) fun w y ⟨x, H1, J, r, a, C, u, p, ex, k, c, n, q⟩ => by
    subst ex
    cases (show w = Value.ref a from r)
    obtain ⟨dx, mA, O, _, t, hp⟩ := tok_obj J k
    exact get_map J.kIn O (c.get _) c.hd n hp rfl ⟨.int p, H1, J.tok _, ⟨t, rfl⟩, q⟩)⟩
end
/-- Token.__init__ at an object that is being made: two stores -/
theorem tok_run {P : Program} {w : World} {K : PySem.W.Frag} {k : Nat} {f : Addr} {name qual : Str} {params : Arguments} {scope : Scope} {dV kV doc pm cdv ct oc : Value} {an od : Option Addr} {osl : Array (Option Value)} {N : List Str} {body : List Stmt}
    {p1 p2 p3 p4 p5 p6 p7 p8 : Pos} {A : Around} {z : Shared} {C a dx : Addr} {u1 : Value} {pl : Int} {tp : Tok} {R : Result → Shared → Prop} (cl : Cls K C) (nv : NoAttr K C "value") (np : NoAttr K C "place")
    (hbd : body = [.Assign [.Attribute (.Name "self" p1) "value" p2] (.Name "value" p3) p4, .Assign [.Attribute (.Name "self" p5) "place" p6] (.Name "place" p7) p8])
    (lk : K.lookup f = some ⟨oc, od, .func (PySem.W.fnOf name qual params body scope dV kV doc pm an cdv ct), osl⟩) (hcd : PySem.W.codeIn K cdv qual = true) (S : FnScope N ["self", "value", "place"] scope)
    (hb : BindsTo z (PySem.W.fnOf name qual params body scope dV kV doc pm an cdv ct) ⟨[.ref a, u1, .int pl tp], []⟩ ((["self", "value", "place"] : List Str).zip [.ref a, u1, .int pl tp]))
    (h0 : scope.names.lookup ("self" : Str) = some .local) (h1 : scope.names.lookup ("value" : Str) = some .local) (h2 : scope.names.lookup ("place" : Str) = some .local)
    (hr : Room k A) (hk : 1 ≤ k) (KXs : ∀ h', (∀ b o, b ≠ dx → z.heap.get? b = some o → h'.get? b = some o) → K.In h') (lim : z.heap.NoLimit) (O : ObjM z.heap a dx C fun _ => none)
    (fin : ∀ h' tk, (∃ mA, ObjM h' a dx C mA ∧ mA "value" = some u1 ∧ mA "place" = some (.int pl tp)) → (∀ b o, b ≠ dx → z.heap.get? b = some o → h'.get? b = some o) → R (.ok (.ret .none)) { z with heap := h', toks := tk }) :
    codeAny (model P w) A (.call (.ref f) ⟨[.ref a, u1, .int pl tp], []⟩) R z := by
  obtain ⟨k, rfl⟩ : ∃ n, k = n + 1 := ⟨k - 1, by omega⟩
  subst hbd
  have KX : K.In z.heap := KXs _ fun _ _ _ e => e
  have kinds : ∀ v ∈ (["self", "value", "place"] : List Str).zip [Value.ref a, u1, .int pl tp], scope.names.lookup v.1 = some .local ∨ (scope.names.lookup v.1 = some .cell ∧ ((cellsFrom (z.heap.objs.size + 1) scope.names []).lookup v.1).isSome = true) := by
    rintro ⟨n, v⟩ hy
    exact (S.par n (List.of_mem_zip hy).1).imp id fun c => ⟨c, PySem.W.cellsFrom_some _ _ _ (.inl c)⟩
  refine codeAny_call_function hr.depth (KX _ _ lk) rfl S.co S.gen rfl (PySem.W.codeRec_of KX hcd) (hb _ _ _ _ ?_)
  refine wpAny_newFunctionEnv_cells S.kind kinds fun env he y fr => ?_
  subst he
  refine ⟨lim.keeps fr.toInCall.keep, codeAny_func ?_⟩
  have hn := fr.toInCall.ns
  have kp := fr.toInCall.keep
  obtain ⟨hy, ty, rfl, _⟩ := fr.done
  have nd : (["self", "value", "place"] : List Str).Nodup := by decide
  have m0 := bindL_get (kindOf := (envOfC qual scope z.heap.objs.size f cdv).kindOf) (x := "self") (v := Value.ref a) (P := ["self", "value", "place"]) (vs := [.ref a, u1, .int pl tp]) (i := 0) (m := fun _ => none) nd rfl rfl h0
  have m1 := bindL_get (kindOf := (envOfC qual scope z.heap.objs.size f cdv).kindOf) (x := "value") (v := u1) (P := ["self", "value", "place"]) (vs := [.ref a, u1, .int pl tp]) (i := 1) (m := fun _ => none) nd rfl rfl h1
  have m2 := bindL_get (kindOf := (envOfC qual scope z.heap.objs.size f cdv).kindOf) (x := "place") (v := Value.int pl tp) (P := ["self", "value", "place"]) (vs := [.ref a, u1, .int pl tp]) (i := 2) (m := fun _ => none) nd rfl rfl h2
  obtain ⟨od, hod⟩ : ∃ o, z.heap.get? dx = some o := let ⟨o, _, _, e, _⟩ := O.ns; ⟨o, e⟩
  have ldx : dx ≠ (envOfC qual scope z.heap.objs.size f cdv).locals := by
    show dx ≠ z.heap.objs.size
    exact Nat.ne_of_lt (Heap.lt_size hod)
  have O1 : ObjM hy a dx C fun _ => none := ⟨kp _ _ O.obj, O.ns.at fun o e => kp _ _ e, O.ne⟩
  have s0 : PySem.Within (fun _ : Str => (none : Option Value)) [] := fun _ h => absurd rfl h
  refine wpAny_execs_cons (plainObj_wpAny_Assign_Attribute (wpAny_Name (wpAny_loadName_local S.kind h1 hn m1 ?_) (by decide)) rfl)
  refine wpAny_Name (wpAny_loadName_local S.kind h0 hn m0 ?_) (by decide)
  refine set_map (ns := []) (KX.keeps kp) O1 cl.sa cl.po nv.taker cl.hd s0 (Nat.zero_le _) fun h3 O3 sb3 => ?_
  have hn3 := hn.sameBut sb3 (Ne.symm ldx)
  have s1 : PySem.Within (fun y : Str => if y = "value" then some u1 else none) ["value"] := fun q h => by
    by_cases e : q = "value"
    · rw [e]; exact List.mem_singleton.mpr rfl
    · exact absurd (if_neg e) h
  have kp3 : ∀ b o, b ≠ dx → z.heap.get? b = some o → h3.get? b = some o := fun b o ne e => (sb3.2 b ne).trans (kp _ _ e)
  have KX3 : K.In h3 := KXs _ kp3
  refine wpAny_execs_cons (plainObj_wpAny_Assign_Attribute (wpAny_Name (wpAny_loadName_local S.kind h2 hn3 m2 ?_) (by decide)) rfl)
  refine wpAny_Name (wpAny_loadName_local S.kind h0 hn3 m0 ?_) (by decide)
  refine set_map (ns := ["value"]) KX3 O3 cl.sa cl.po np.taker cl.hd s1 (by show 1 ≤ sizeLine; exact sz1) fun h4 O4 sb4 => ?_
  exact wpAny_execs_nil (fin h4 _ ⟨_, O4, rfl, rfl⟩ fun b o ne e => (sb4.2 b ne).trans (kp3 b o ne e))
end Lp
set_option maxRecDepth 100000
set_option maxHeartbeats 2000000
namespace Lp
open PySem PySem.Spec PyProof.Rows L2
/-- Token(value, place) -/
def tTokR (C : Addr) (t : TAR) : TR := fun σ G z Q => t σ G z fun us G1 y => ∃ u p tp, us = [u, .int p tp] ∧ ∀ a dx x, G1 a = none → G1 dx = none → dx ≠ a → y.toks ≤ x.toks → Q (.ref a) (upd (upd G1 dx (TkD dx u p)) a (TkA C dx a)) x
section
variable {X : Cx} {A : Ad} {j : Nat} {e : Expr} {es : List Expr} {t : TAR} {p pos : Pos}
theorem tkd_ok {P : Program} {w : World} {H : Hp} {h : Heap} {C dx a : Addr} {u : Value} {pl : Int} {tp : Tok} (k : ∃ mA, ObjM h a dx C mA ∧ mA "value" = some u ∧ mA "place" = some (.int pl tp)) : ObjOk P w H h dx (TkD dx u pl) ∧ ObjOk P w H h a (TkA C dx a) := by
  obtain ⟨mA, O, h1, h2⟩ := k
  obtain ⟨od, eod⟩ : ∃ o, h.get? dx = some o := let ⟨o, _, _, e, _⟩ := O.ns; ⟨o, e⟩
  refine ⟨⟨⟨mA, O.ns, h1, tp, h2⟩, ⟨od, eod⟩, ?_⟩, ⟨O.obj, ⟨_, O.obj⟩, ?_⟩⟩
  · rintro g1 g2 ⟨m, n, q1, q2⟩ kp
    exact ⟨m, n.at kp, q1, q2⟩
  · intro g1 g2 q kp
    exact kp _ q
theorem run_tok {pins : Pins} {σ : L2.St} {G : Hp} {y : Shared} {Q : SV} {u : Value} {pl : Int} {tp : Tok} (T : Txt X.K X.mg A) (hr : Room j X.A) (hk : 3 ≤ j) (J : Inv X pins σ G y)
    (q : ∀ a dx x, G a = none → G dx = none → dx ≠ a → y.toks ≤ x.toks → Q (.ref a) (upd (upd G dx (TkD dx u pl)) a (TkA A.to dx a)) x) : wpAny (model X.prog X.w) X.A (call (.ref A.to) [u, .int pl tp]) (ER X pins σ Q) X.xe y := by
  obtain ⟨j, rfl⟩ : ∃ n, j = n + 1 := ⟨j - 1, by omega⟩
  obtain ⟨f, fd, F, M, hb⟩ := T.i_Token.ex
  obtain ⟨oc, od, kV, doc, pm, an, cdv, ct, osl, rfl, lk, hcd⟩ := F.ex
  have J2 := Inv.made (C := A.to) J
  have f0 : G y.heap.objs.size = none := J.hok.fresh (Nat.le_refl _)
  have f1 : G (y.heap.objs.size + 1) = none := J.hok.fresh (Nat.le_succ _)
  have ne : y.heap.objs.size ≠ y.heap.objs.size + 1 := Nat.ne_of_lt (Nat.lt_succ_self _)
  obtain ⟨mA0, O0, r0, _, _, ho0⟩ := ins_get J2.hok (a := y.heap.objs.size + 1) upd_same
  have e0 : mA0 = fun _ => none := by
    funext n
    have := r0 n
    cases e : mA0 n with
    | none => rfl
    | some v => rw [e] at this; exact this.elim
  subst e0
  refine wp_le (Q := fun v x => ∃ a dx, v = .ref a ∧ G a = none ∧ G dx = none ∧ dx ≠ a ∧ Inv X pins σ (upd (upd G dx (TkD dx u pl)) a (TkA A.to dx a)) x) ?_ fun v x le ⟨a, dx, ev, h1, h2, h3, J3⟩ => ⟨_, J3, by rw [ev]; exact q a dx x h1 h2 h3 le⟩
  refine wpAny_call (make_map (f := f) J.kIn M.makes M.init (beq_iff_eq.mp M.fn) ?_)
  refine tok_run (body := _) (N := ["self", "value", "place"]) T.q_Token.cl (T.q_Token.no _ (by decide)) (T.q_Token.no _ (by decide)) (by rfl) lk hcd ⟨rfl, rfl, rfl, by decide +kernel, rfl, by decide +kernel, by decide +kernel⟩ (hb _ _ J2.kIn rfl) (by decide +kernel) (by decide +kernel) (by decide +kernel) (hr.make A.to [u, .int pl tp] [])
    (by omega) (fun h' kp b o e => kp b o (fun z => ?_) (J2.kIn b o e)) J2.nolimit O0 fun h' tk k kp => ?_
  · have := Heap.lt_size (J.kIn b o e)
    rw [z] at this
    exact absurd this (Nat.lt_irrefl _)
  · refine ⟨rfl, y.heap.objs.size + 1, y.heap.objs.size, rfl, f1, f0, ne, ?_⟩
    obtain ⟨okD, okA⟩ := tkd_ok (P := X.prog) (w := X.w) (H := upd (upd G y.heap.objs.size (TkD y.heap.objs.size u pl)) (y.heap.objs.size + 1) (TkA A.to y.heap.objs.size (y.heap.objs.size + 1))) k
    have at_ : ∀ b o, (upd (upd G y.heap.objs.size (.own (y.heap.objs.size + 1))) (y.heap.objs.size + 1) (.ins A.to y.heap.objs.size [])) b = some o → b ≠ y.heap.objs.size → b ≠ y.heap.objs.size + 1 → G b = some o := fun b o e n1 n2 => by rw [upd_ne n2, upd_ne n1] at e; exact e
    have lift : ∀ b o, G b = some o → (upd (upd G y.heap.objs.size (TkD y.heap.objs.size u pl)) (y.heap.objs.size + 1) (TkA A.to y.heap.objs.size (y.heap.objs.size + 1))) b = some o := fun b o e => by rw [upd_ne (ne_of_none e f1), upd_ne (ne_of_none e f0)]; exact e
    have low : ∀ b o, G b = some o → b ≠ y.heap.objs.size ∧ b ≠ y.heap.objs.size + 1 := fun b o e => ⟨ne_of_none e f0, ne_of_none e f1⟩
    refine J2.un (h' := h') (t' := tk) ?_ ?_
    · have nn : ∀ b, (upd (upd G y.heap.objs.size (.own (y.heap.objs.size + 1))) (y.heap.objs.size + 1) (.ins A.to y.heap.objs.size [])) b = none → b ≠ y.heap.objs.size ∧ b ≠ y.heap.objs.size + 1 ∧ G b = none := fun b e => by
        by_cases h2 : b = y.heap.objs.size + 1
        · rw [h2, upd_same] at e; cases e
        · by_cases h1 : b = y.heap.objs.size
          · rw [h1, upd_ne ne, upd_same] at e; cases e
          · rw [upd_ne h2, upd_ne h1] at e
            exact ⟨h1, h2, e⟩
      have keeps : ∀ {b : Addr} {o : HO}, (upd (upd G y.heap.objs.size (.own (y.heap.objs.size + 1))) (y.heap.objs.size + 1) (.ins A.to y.heap.objs.size [])) b = some o → (∀ c, o ≠ .own c) → (∀ c d fs, o ≠ .ins c d fs) → G b = some o := fun {b o} e no ni => by
        by_cases h2 : b = y.heap.objs.size + 1
        · rw [h2, upd_same] at e; exact absurd (Option.some.inj e).symm (ni _ _ _)
        · by_cases h1 : b = y.heap.objs.size
          · rw [h1, upd_ne ne, upd_same] at e; exact absurd (Option.some.inj e).symm (no _)
          · rw [upd_ne h2, upd_ne h1] at e; exact e
      refine ⟨fun b o e n _ _ => kp b o (nn b n).1 e, fun b o e n _ _ => ⟨o.slots, kp b o (nn b n).1 e⟩, fun b o e n _ => ?_, fun b o e _ => ?_, fun b xs e => lift _ _ (keeps e (fun _ z => by cases z) fun _ _ _ z => by cases z), fun b o xs e => lift _ _ (keeps e (fun _ z => by cases z) fun _ _ _ z => by cases z), fun b ps e => ⟨#[], by rw [lift _ _ (keeps e (fun _ z => by cases z) fun _ _ _ z => by cases z)]; simp⟩⟩
      · rw [upd_ne (nn b n).2.1, upd_ne (nn b n).1]; exact (nn b n).2.2
      · by_cases h1 : b = y.heap.objs.size
        · obtain ⟨mA, O, _⟩ := k
          obtain ⟨o', _, _, e', _⟩ := O.ns
          exact ⟨o', by rw [h1]; exact e'⟩
        · exact ⟨o, kp b o h1 e⟩
    · intro b o e
      by_cases h2 : b = y.heap.objs.size + 1
      · rw [h2, upd_same] at e
        rw [h2, ← Option.some.inj e]
        exact okA
      · rw [upd_ne h2] at e
        by_cases h1 : b = y.heap.objs.size
        · rw [h1, upd_same] at e
          rw [h1, ← Option.some.inj e]
          exact okD
        · rw [upd_ne h1] at e
          refine (J.hok b o e).stay (fun c v hc z => ?_) (fun c hc => lift _ _ hc) fun c xs hc => lift _ _ hc
          have cl : c ≠ y.heap.objs.size := by
            rcases hc with hc | hc
            · rw [hc]; exact h1
            · exact ne_of_none hc f0
          exact kp c v cl (Heap.get?_push_of_some _ (Heap.get?_push_of_some _ z))
theorem pr_tok (T : Txt X.K X.mg A) (hr : Room j X.A) (ha : PAR X (e :: es) t) (hk : 3 ≤ j := by decide) (hg : Gl X ("Token" : Str) := by rfl) (he : starEach (e :: es) X.env = (false, eval e X.env) :: starEach es X.env := by rfl) (hpl : (backTo pos (starEach es X.env)).any (·.1) = false := by rfl) :
    PR X (.Call (.Name "Token" p) (e :: es) [] pos) (tTokR A.to t) := by
  obtain ⟨f, fd, F, M, hb⟩ := T.i_Token.ex
  refine ⟨fun pins z σ G Q I q => wpAny_Call_Name_kw (ld_glob I hg T.q_Token.gC ?_ (by decide))⟩
  refine PySem.W.callWith_K (h₀ := X.base) I.ok.mod.kin M.kp (thn (ha.run pos pins z σ G _ I q) fun us y ⟨G1, J, u, pl, tp, eu, k⟩ => ⟨J.kIn, ?_⟩) he hpl
  subst eu
  exact run_tok T hr hk J k
end
end Lp
set_option maxRecDepth 100000
set_option maxHeartbeats 2000000
/-! A comprehension whose new list is known item by item as it stands. -/
namespace Lp
open PySem PySem.Spec PyProof.Rows L2
/-- a list at D, of whose items (as values) ok is known -/
def GL (D : Addr) (ok : V → Value → Prop) (acc : List V) : HO := .ext fun h => ∃ (its : List Value) (n : Nat), Paired ok acc its ∧ h.get? D = some { cls := .type "list", data := .seq its.toArray n }
theorem gl_ok {P : Program} {w : World} {H : Hp} {h : Heap} {D : Addr} {ok : V → Value → Prop} {acc : List V} (k : ∃ (its : List Value) (n : Nat), Paired ok acc its ∧ h.get? D = some { cls := .type "list", data := .seq its.toArray n }) : ObjOk P w H h D (GL D ok acc) := by
  refine ⟨k, ?_, ?_⟩
  · obtain ⟨its, n, _, e⟩ := k; exact ⟨_, e⟩
  · rintro g1 g2 ⟨its, n, r, e⟩ kp
    exact ⟨its, n, r, kp _ e⟩
theorem paired_app {α β : Type} {R : α → β → Prop} {a : α} {b : β} : ∀ {l : List α} {m : List β}, Paired R l m → R a b → Paired R (l ++ [a]) (m ++ [b])
  | _, _, .nil, r => .cons r .nil
  | _, _, .cons q t, r => .cons q (paired_app t r)
theorem thL {α : Type} {t : Sem α} {Q Q' : α → Shared → Prop} {M : Model} {A : Around} {E : Value → Shared → Prop} {z : Shared} (h : wpAny M A t Q (fun _ _ => False) z) (k : ∀ a y, z.toks ≤ y.toks → Q a y → Q' a y) : wpAny M A t Q' E z :=
  wpAny_mono (PySem.wpAny_toks h) (fun a y q => k a y q.1 q.2) fun _ _ q => q.2.elim
theorem app_gl {X : Cx} {pins : Pins} {σ : L2.St} {H : Hp} {z : Shared} {E : Value → Shared → Prop} {D : Addr} {ok ok' : V → Value → Prop} {acc : List V} {y : V} {v : Value} {Q : Value → Shared → Prop} (I : Inv X pins σ H z) (hD : H D = some (GL D ok acc)) (hz : acc.length < sizeLine) (le : ∀ a b, ok a b → ok' a b) (r : ok' y v)
    (h : ∀ x, z.toks ≤ x.toks → Inv X pins σ (upd H D (GL D ok' (acc ++ [y]))) x → Q .none x) : wpAny (model X.prog X.w) X.A (call (.builtin "list.append") [.ref D, v]) Q E z := by
  obtain ⟨⟨its, n, ri, e⟩, _⟩ := I.hok D _ hD
  refine append_at (hsz := by rw [List.size_toArray, ← Paired.length ri]; omega) e fun h' sb ho => ?_
  refine h { z with heap := h' } (Nat.le_refl _) (I.write (t' := z.toks) (by rw [hD]; trivial) (.inl rfl) (fun b u hb q => (sb.2 b hb).trans q) ⟨_, ho⟩ (gl_ok ⟨its ++ [v], n + 1, paired_app (Paired.mapP ri le) r, ?_⟩))
  rw [ho, List.push_toArray]
/-- [elt for target in iter], every item as it stands -/
def tLcR (wi : TI) (g : TG) (te : TR) (vs : List Nat) : TR := fun σ H z Q => wi σ H fun J H1 => ∀ (D : Addr) (z1 : Shared), H1 D = none → z.toks ≤ z1.toks → ∃ (ok0 : V → Value → Prop) (W : Nat → Nat → Hp → Shared → Prop), (∃ m, ∀ z2 : Shared, z1.toks ≤ z2.toks → W 0 m (upd H1 D (GL D ok0 [])) z2) ∧ ∀ i m G x, W i m G x →
  (J.stop i G ∧ ∀ y : Shared, x.toks ≤ y.toks → Q (.ref D) G y) ∨ (J.go i G ∧ ∃ Nx : Hp → Shared → Prop, (∀ G' x', Nx G' x' → ∃ m', m' < m ∧ W (i + 1) m' G' x') ∧ ∀ v G1, J.yld i G v G1 → g v (wipe σ vs) G1 fun σ2 G2 => wipe σ2 vs = wipe σ vs ∧
    ∀ y : Shared, x.toks ≤ y.toks → te σ2 G2 y fun u G3 x3 => ∃ acc v3 ok ok', G3 D = some (GL D ok acc) ∧ acc.length < sizeLine ∧ (∀ a b, ok a b → ok' a b) ∧ ok' v3 u ∧ ∀ x4 : Shared, x3.toks ≤ x4.toks → Nx (upd G3 D (GL D ok' (acc ++ [v3]))) x4)
section
variable {X : Cx}
theorem pr_lc {elt tg iter : Expr} {scope : Scope} {own : List (Str × Nat)} {pos : Pos} {wi : TI} {g : TG} {te : TR} (hc : X.calm = true) (nd : X.N.Nodup) (hi : PI X tg iter wi) (ok : BlkOk X.N X.env.scope scope own)
    (hg : ∀ (y : Shared) (G : Hp) (c : Addr) (cells : List (Str × Addr)) (ws : List Addr), PG (X.blk y G scope (compEnvC scope cells c X.env) ws) tg g)
    (he : ∀ (y : Shared) (G : Hp) (c : Addr) (cells : List (Str × Addr)) (ws : List Addr), PR (X.blk y G scope (compEnvC scope cells c X.env) ws) elt te) (hs : ∀ x, foldedSetIterable iter X.env x = pure x := by intro _; rfl) :
    PR X (.ListComp elt [⟨tg, iter, [], 0⟩] scope pos) (tLcR wi g te (own.map (·.2))) := by
  refine ⟨fun pins z σ G Q I q => ?_⟩
  have clo : ∀ y ∈ scope.names, y.2 = .free → ∃ c, X.env.cells.lookup y.1 = some c := fun y hy e => (ok.free y hy e).elim (fun k => I.ok.has _ (.inl k)) fun k => I.ok.has _ (.inr k)
  rw [eval_ListComp]
  refine wpAny_comprehension_free (use := none) rfl hs (closure_ok clo) ok.kind (fun y hy e => by rw [ok.uniq y hy, e]) (wp_le (hi.run pins z σ G _ I q) fun xv z1 le1 hx => wp_le hx fun itv z2 le2 h2 => ?_)
  obtain ⟨it, fp, tn, J, G2, e, I2, T, st2, f2, q⟩ := h2
  subst e
  refine wpAny_newObj_type (newEnv_comp ?_) (by show 0 ≤ sizeLine; decide)
  generalize eD : z2.heap.objs.size = D
  have nD : G2 D = none := I2.hok.fresh (Nat.le_of_eq eD)
  obtain ⟨ok0, W, ⟨m0, w0⟩, turn⟩ := q D z2 nD (Nat.le_trans le1 le2)
  generalize e3 : ({ z2 with heap := z2.heap.push { cls := .type "list", data := .seq ([] : List Value).toArray } } : Shared) = z3
  have I3 : Inv X pins σ (upd G2 D (GL D ok0 [])) z3 := by
    rw [← e3]
    refine I2.laid (t' := z2.toks) (fun b o e => Heap.get?_push_of_some _ e) (Nat.le_of_eq eD) (gl_ok ⟨[], 0, .nil, ?_⟩)
    rw [← eD]
    exact Heap.get?_push_size _ rfl
  have h3 : z3.heap = z2.heap.push { cls := .type "list", data := .seq ([] : List Value).toArray } := by rw [← e3]
  have t3 : z3.toks = z2.toks := by rw [← e3]
  have f3 : ∀ b ∈ fp, FpOk X pins (upd G2 D (GL D ok0 [])) b ∧ b < z3.heap.objs.size := fun b hb => by
    obtain ⟨o, e, _⟩ := T.obj _ _ st2 b hb
    have lt := Heap.lt_size e
    refine ⟨⟨?_, (f2 b hb).2⟩, by rw [h3, Heap.size_push]; exact Nat.lt_succ_of_lt lt⟩
    rw [upd_ne (by rw [← eD]; exact Nat.ne_of_lt lt)]
    exact (f2 b hb).1
  have st3 : tn 0 z3.heap := T.keep _ _ _ st2 fun b _ o e => by rw [h3]; exact Heap.get?_push_of_some _ e
  have I4 := block_start I3 ok nd f3
  have w0 := w0 { z3 with heap := pushCells (z3.heap.push { cls := .type "dict", data := .dict #[] }) scope.names } (by show z2.toks ≤ z3.toks; omega)
  have nfp : ∀ b ∈ fp, (upd G2 D (GL D ok0 [])) b = none := fun b hb => (f3 b hb).1.1
  generalize eG : upd G2 D (GL D ok0 []) = G3 at I3 I4 w0 nfp f3
  show codeAny _ _ (.compStart (.ListComp elt [⟨tg, iter, [], 0⟩] scope pos) 0 (.ref it) (.ref D) (compEnvC scope (cellsFrom (z3.heap.objs.size + 1) scope.names (cloFrom X.env.cells scope.names [])) z3.heap.objs.size X.env)) (compPost (model X.prog X.w) X.A X.xe none _ (.ref D) z3.heap.objs.size) { z3 with heap := pushCells (z3.heap.push { cls := .type "dict", data := .dict #[] }) scope.names }
  have pg := hg z3 G3 z3.heap.objs.size (cellsFrom (z3.heap.objs.size + 1) scope.names (cloFrom X.env.cells scope.names [])) fp
  have pe := he z3 G3 z3.heap.objs.size (cellsFrom (z3.heap.objs.size + 1) scope.names (cloFrom X.env.cells scope.names [])) fp
  generalize ec : compEnvC scope (cellsFrom (z3.heap.objs.size + 1) scope.names (cloFrom X.env.cells scope.names [])) z3.heap.objs.size X.env = ce at I4 pg pe ⊢
  have cL : ce.locals = z3.heap.objs.size := by rw [← ec]; rfl
  have st4 : tn 0 (pushCells (z3.heap.push { cls := .type "dict", data := .dict #[] }) scope.names) := T.keep _ _ _ st3 fun b _ o e => pushCells_keeps _ _ _ _ (Heap.get?_push_of_some _ e)
  generalize e4 : ({ z3 with heap := pushCells (z3.heap.push { cls := .type "dict", data := .dict #[] }) scope.names } : Shared) = z4 at I4 w0 ⊢
  have st4 : tn 0 z4.heap := by rw [← e4]; exact st4
  have stat : ∀ {σ1 : L2.St} {G1 : Hp} {y : Shared}, Inv (X.blk z3 G3 scope ce fp) [] σ1 G1 y → (∀ b ∈ fp, G1 b = none) → ∀ b ∈ fp, FpOk (X.blk z3 G3 scope ce fp) [] G1 b := fun {σ1 G1 y} K hn b hb =>
    ⟨hn b hb, (K.ok.exf b hb).1, K.ok.exfs b hb, .inl hb, fun x c e => (K.ok.exf b hb).2 x c e, fun p hp => by cases hp⟩
  have loop : codeAny (model X.prog X.w) X.A (.compLoop (.ListComp elt [⟨tg, iter, [], 0⟩] scope pos) 0 (.ref it) (.ref D) ce) (compPost (model X.prog X.w) X.A X.xe none (ER X pins σ Q) (.ref D) z3.heap.objs.size) z4 := by
    refine compLoop_any (fun n y => ∃ i G1, Inv (X.blk z3 G3 scope ce fp) [] (wipe σ (own.map (·.2))) G1 y ∧ tn i y.heap ∧ (∀ b ∈ fp, G1 b = none) ∧ W i n G1 y) ?_ m0 ⟨0, G3, I4, st4, nfp, w0⟩
    rintro n z5 ⟨i, G5, I5, st5, n5, w5⟩
    rcases turn i n G5 z5 w5 with ⟨stop, fin⟩ | ⟨go, Nx, hNx, step⟩
    · refine thL (T.done (X.blk z3 G3 scope ce fp) rfl rfl rfl hc i [] z5 _ G5 (fun _ _ => False) I5 (stat I5 n5) st5 stop) fun r z6 le6 ⟨er, I6⟩ => ?_
      subst er
      have I7 : Inv X pins σ G5 z6 := I3.call' (ch := fp) I6.os I6.base I6.hok I6.bare fun b hb => ⟨(f3 b hb).1.2.2.2.1, (f3 b hb).1.2.1, (f3 b hb).1.2.2.2.2.1, (f3 b hb).1.2.2.2.2.2⟩
      have nC : G5 z3.heap.objs.size = none := cL ▸ (show G5 ce.locals = none from I6.free)
      obtain ⟨m, hn, _⟩ := I6.loc
      have hn : z6.heap.Ns ce.locals m := hn
      rw [cL] at hn
      obtain ⟨a0, a1, a2, a3, a4, a5⟩ := I3.fpOk (Nat.le_refl _) nC
      refine ⟨m, hn, fun h'' sb => ?_⟩
      exact ⟨G5, I7.turned (t' := z6.toks) (fun b o hb e => (sb.2 b hb).trans e) a0 a1 a3 a4 a5, fin _ le6⟩
    · refine thL (T.item (X.blk z3 G3 scope ce fp) rfl rfl rfl hc i [] z5 _ G5 (fun _ _ => False) I5 (stat I5 n5) st5 go) fun r z6 le6 ⟨u, er, h6⟩ => ?_
      subst er
      refine thL h6 fun _ z7 le7 ⟨x, G7, I7, r7, y7, st7, n7⟩ => ?_
      have I7p := I7.pinned (stat I7 n7) (T.obj _ _ st7)
      refine thL (pg.run _ z7 _ G7 x u _ I7p r7 (step x G7 y7)) fun _ z8 le8 ⟨σ8, G8, I8, hw8, q8⟩ => ?_
      refine wpAny_tests_nil ?_
      rw [if_pos rfl]
      refine thL (pe.run _ z8 σ8 G8 _ I8 (q8 z8 (by omega))) fun v z9 le9 ⟨G9, I9, acc, v9, ok1, ok2, hD9, hz9, le, rv, nx⟩ => ?_
      refine app_gl (X := X.blk z3 G3 scope ce fp) I9 hD9 hz9 le rv fun y ley K => ?_
      obtain ⟨m', lt, w'⟩ := hNx _ y (nx y ley)
      have pin : ∀ b ∈ fp, ∀ o, z7.heap.get? b = some o → y.heap.get? b = some o ∧ (upd G9 D (GL D ok2 (acc ++ [v9]))) b = none := fun b hb o e =>
        let k := K.pin (b, o) (List.mem_append_right _ (List.mem_append_right _ (mem_pinsAt hb e)))
        ⟨k.1, k.2.1⟩
      have len : (wipe σ (own.map (·.2))).length = σ8.length := by rw [← hw8, wipe_length]
      refine ⟨m', lt, i + 1, _, (K.unpinned (pins := [])).weak len fun j v' e => ?_, T.keep _ _ _ st7 fun b hb o e => (pin b hb o e).1, fun b hb => ?_, w'⟩
      · rw [← hw8] at e
        exact (wipe_some e).1
      · obtain ⟨o, e, _⟩ := T.obj _ _ st7 b hb
        exact (pin b hb o e).2
  exact codeAny_compStart_list loop (T.self X.A 0 _ _ _ st4 loop)
end
end Lp
set_option maxRecDepth 100000
set_option maxHeartbeats 2000000
namespace Lp
open PySem PySem.Spec PyProof.Rows L2
open VasedBase (Bytes isLetter isDigit isBlank Tok PTok Toks tokens token)
section
variable {P : Program} {w : World} {K : PySem.W.Frag} {mg : Str → Option Value} {base : Heap} {A : Ad}
def isDigI (n : Int) : Bool := decide (48 ≤ n) && decide (n ≤ 57)
def spIsDigit : Sp := fun vs H Q _ => ∃ n : Int, vs = [.int n] ∧ Q (.bl (isDigI n)) H
abbrev N_is_digit : List Str := ["byte"]
theorem sc_is_digit : FnScope N_is_digit ["byte"] (defScope (top 55)) := ⟨rfl, rfl, rfl, by decide +kernel, rfl, by decide +kernel, by decide +kernel⟩
theorem k_is_digit (T : Txt K mg A) : Ok P w K mg base 1 "is_digit" spIsDigit := by
  refine ok_mk T.d_is_digit sc_is_digit (fun vs H Q E ⟨n, e, _⟩ => by rw [e]; rfl) fun f cdv AA outer s H vs Q E hr tk po h => ⟨_, (pss_one (ps_ret (pe_chain op_le op_le (pe_gv T.c_FIRST_DIGIT) (pv 0) (pe_gv T.c_LAST_DIGIT)))), ?_⟩
  obtain ⟨n, rfl, q⟩ := h
  refine ⟨_, rfl, _, _, rfl, rfl, _, rfl, ?_⟩
  unfold isDigI at q
  refine if_2 (fun c => ?_) fun c => ?_
  · rw [c] at q
    exact ⟨_, _, rfl, rfl, q⟩
  · rw [c] at q
    exact q
theorem isDigI_is (b : UInt8) : isDigI b.toNat = isDigit b := by
  unfold isDigI isDigit
  rw [← Bool.decide_and]
  exact decide_eq_decide.mpr (by omega)
theorem blanks_is : ([.int 32, .int 9, .int 10] : List V) = [(32 : UInt8), 9, 10].map iB := rfl
theorem eqV_b (a b : UInt8) : eqV (iB a) (iB b) = (a == b) := by
  show ((a.toNat : Int) == (b.toNat : Int)) = _
  rw [Bool.eq_iff_iff, beq_iff_eq, beq_iff_eq]
  exact ⟨fun h => UInt8.toNat.inj (by omega), fun h => by rw [h]⟩
theorem inV_blank (c : UInt8) : inV (iB c) [.int 32, .int 9, .int 10] = isBlank c := by
  unfold inV isBlank
  rw [blanks_is]
  show (eqV (iB 32) (iB c) || (eqV (iB 9) (iB c) || (eqV (iB 10) (iB c) || false))) = _
  rw [eqV_b, eqV_b, eqV_b, Bool.or_false, Bool.beq_comm (a := (32 : UInt8)), Bool.beq_comm (a := (9 : UInt8)), Bool.beq_comm (a := (10 : UInt8))]
def spPast : Sp := fun vs H Q _ => ∃ (a : Addr) (b : Bytes) (p : Nat), vs = [.ref a, nV p] ∧ H a = some (.lst (b.map iB)) ∧ p ≤ b.length ∧ Q (nV (p + skip false (b.drop p))) H
abbrev N_past_blanks : List Str := ["script", "at", "in_remark"]
theorem sc_past_blanks : FnScope N_past_blanks ["script", "at"] (defScope (top 57)) := ⟨rfl, rfl, rfl, by decide +kernel, rfl, by decide +kernel, by decide +kernel⟩
theorem k_past_blanks (T : Txt K mg A) : Ok P w K mg base 1 "past_blanks" spPast := by
  refine ok_mk T.d_past_blanks sc_past_blanks (fun vs H Q E ⟨_, _, _, e, _⟩ => by rw [e]; rfl) fun f cdv AA outer s H vs Q E hr tk po h => ⟨_, (pss_cons (ps_set (i := 2) sc_past_blanks.nd rfl (Or.inl rfl) pe_bl)
    (pss_cons (ps_while po (pt_cmpR op_lt (pv 1) (pe_len T.b_len (pv 0)) (nomark _)) (pss_cons (ps_if (pt_cmpR op_eq (pe_ix ix_list (pv 0) (pv 1) (fun _ _ => rfl)) (pe_gv T.c_LINE_END) (nomark _)) (pss_one (ps_set (i := 2) sc_past_blanks.nd rfl (Or.inl rfl) pe_bl)) (pss_one (ps_if (pt_cmpR op_eq (pe_ix ix_list (pv 0) (pv 1) (fun _ _ => rfl)) (pe_gv T.c_REMARK) (nomark _)) (pss_one (ps_set (i := 2) sc_past_blanks.nd rfl (Or.inl rfl) pe_bl)) (pss_one (ps_if (PW.pt (pw_and (pt_not (pt_val (pv 2))) (pw_and1 (pt_cmpR op_notIn_seq (pe_ix ix_list (pv 0) (pv 1) (fun _ _ => rfl)) (pe_gt T.c_BLANKS) rfl)))) (pss_one ps_break) pss_nil)))))
    (pss_one (ps_aug (i := 1) sc_past_blanks.nd rfl (.inl rfl) pe_int ip_add))))
    (pss_one (ps_ret (pv 1))))), ?_⟩
  obtain ⟨a, b, p, rfl, ha, hp, q⟩ := h
  have bl : (b.map iB).length = b.length := List.length_map ..
  refine ⟨fun m σ G => G = H ∧ ∃ i r, σ = [some (.ref a), some (nV i), some (.bl r)] ∧ m = b.length - i ∧ i ≤ b.length ∧ i + skip r (b.drop i) = p + skip false (b.drop p), ⟨_, rfl, p, false, rfl, rfl, hp, rfl⟩, ?_⟩
  rintro m σ G ⟨rfl, i, r, rfl, rfl, hi, e⟩
  refine ⟨_, rfl, _, rfl, a, _, rfl, SqL.of ha, ?_⟩
  refine ⟨_, _, rfl, rfl, _, rfl, if_2 (fun c => ?_) fun c => ?_⟩
  · have c := of_decide_eq_true c
    rw [bl] at c
    obtain ⟨x, hx⟩ := get_of_lt (l := b) (i := i) (by omega)
    have hd := drop_more hx
    rw [hd, skip_cons] at e
    have ix : ∀ {R : Prop}, R → R := fun r => r
    have gx : (b.map iB)[i]? = some (iB x) := by rw [List.getElem?_map, hx]; rfl
    refine ⟨fun σ' H' => H' = G ∧ ∃ r', σ' = [some (.ref a), some (nV (i + 1)), some (.bl r')] ∧ i + 1 ≤ b.length ∧ i + 1 + skip r' (b.drop (i + 1)) = p + skip false (b.drop p), ?_, ?_⟩
    · rintro σ' H' ⟨rfl, r', rfl, h1, h2⟩
      exact ⟨b.length - (i + 1), by omega, rfl, i + 1, r', rfl, rfl, h1, h2⟩
    · have ex : ∀ {y : UInt8}, decide (V.int (x.toNat : Int) = V.int (y.toNat : Int)) = true → x = y := fun {y} k => UInt8.toNat.inj (by have := V.int.inj (of_decide_eq_true k); omega)
      have nx : ∀ {y : UInt8}, decide (V.int (x.toNat : Int) = V.int (y.toNat : Int)) = false → x ≠ y := fun {y} k z => of_decide_eq_false k (by rw [z])
      refine ⟨_, rfl, _, rfl, a, _, _, _, rfl, rfl, SqL.of ha, at_n gx rfl, rfl, _, rfl, if_2 (fun k => ?_) fun k => ?_⟩
      · have k := ex (y := 10) k
        rw [if_pos k] at e
        exact ⟨_, rfl, _, _, rfl, rfl, rfl, false, rfl, by omega, by omega⟩
      · have k := nx (y := 10) k
        rw [if_neg k] at e
        refine ⟨_, rfl, _, rfl, a, _, _, _, rfl, rfl, SqL.of ha, at_n gx rfl, rfl, _, rfl, if_2 (fun k3 => ?_) fun k3 => ?_⟩
        · have k3 := ex (y := 35) k3
          rw [if_pos k3] at e
          exact ⟨_, rfl, _, _, rfl, rfl, rfl, true, rfl, by omega, by omega⟩
        · have k3 := nx (y := 35) k3
          rw [if_neg k3] at e
          refine ⟨_, rfl, r, rfl, ?_⟩
          cases r with
          | true =>
            rw [if_neg (by simp)] at e
            exact ⟨_, rfl, _, _, rfl, rfl, rfl, true, rfl, by omega, by omega⟩
          | false =>
            refine ⟨_, rfl, _, rfl, a, _, _, _, rfl, rfl, SqL.of ha, at_n gx rfl, fun t ht => ⟨t, _, rfl, .inr ht, rfl, rfl, ?_⟩⟩
            rw [inV_blank]
            refine ⟨_, rfl, if_2 (fun k4 => ?_) fun k4 => ?_⟩
            · rw [if_pos (by simpa using k4)] at e
              rw [Nat.add_zero] at e
              exact ⟨_, rfl, e ▸ q⟩
            · rw [if_neg (by simpa using k4)] at e
              exact ⟨_, rfl, _, _, rfl, rfl, rfl, false, rfl, by omega, by omega⟩
  · have c := of_decide_eq_false c
    rw [bl] at c
    have : skip r (b.drop i) = 0 := by rw [List.drop_eq_nil_of_le (by omega)]; cases r <;> rfl
    rw [this, Nat.add_zero] at e
    exact ⟨_, rfl, e ▸ q⟩
end
end Lp
set_option maxRecDepth 100000
set_option maxHeartbeats 2000000
namespace Lp
open PySem PySem.Spec PyProof.Rows L2
open VasedBase (Bytes isLetter isDigit isBlank Tok PTok Toks tokens token numberOf)
/-- a def that tells whether a byte is of a kind -/
def spTells (p : UInt8 → Bool) : Sp := fun vs H Q _ => ∃ c : UInt8, vs = [iB c] ∧ Q (.bl (p c)) H
structure Tells (P : Program) (w : World) (K : PySem.W.Frag) (mg : Str → Option Value) (base : Heap) (g : Addr) (p : UInt8 → Bool) : Prop where
  ex : ∃ (fd : FuncData) (ps : List Str), FnOk P w K mg base (L2.CX P w) 1 g fd ps (spTells p) ∧ PySem.W.keepIn K (.ref g) = true ∧ Binds K fd ps []
section
variable {P : Program} {w : World} {K : PySem.W.Frag} {mg : Str → Option Value} {base : Heap} {A : Ad}
theorem tells_letter (T : Txt K mg A) : ∃ g, Tells P w K mg base g isLetter ∧ Gv mg "is_letter" (.ref g) := by
  obtain ⟨f, fd, ps, F, hm, kp, b⟩ := (k_is_letter (P := P) (w := w) (base := base) T).ex
  refine ⟨f, ⟨fd, ps, F.imp fun vs H Q E ⟨c, e, q⟩ => ⟨c.toNat, e, ?_⟩, kp, b⟩, ⟨_, hm, rfl⟩⟩
  rw [isLetI_is]; exact q
theorem tells_digit (T : Txt K mg A) : ∃ g, Tells P w K mg base g isDigit ∧ Gv mg "is_digit" (.ref g) := by
  obtain ⟨f, fd, ps, F, hm, kp, b⟩ := (k_is_digit (P := P) (w := w) (base := base) T).ex
  refine ⟨f, ⟨fd, ps, F.imp fun vs H Q E ⟨c, e, q⟩ => ⟨c.toNat, e, ?_⟩, kp, b⟩, ⟨_, hm, rfl⟩⟩
  rw [isDigI_is]; exact q
def spRunEnd (P : Program) (w : World) (K : PySem.W.Frag) (mg : Str → Option Value) (base : Heap) : Sp := fun vs H Q _ => ∃ (a g : Addr) (b : Bytes) (i : Nat) (p : UInt8 → Bool), vs = [.ref a, nV i, .ref g] ∧ Tells P w K mg base g p ∧ H a = some (.lst (b.map iB)) ∧ i ≤ b.length ∧ Q (nV (i + ((b.drop i).takeWhile p).length)) H
abbrev N_run_end : List Str := ["script", "at", "belongs"]
theorem sc_run_end : FnScope N_run_end ["script", "at", "belongs"] (defScope (top 59)) := ⟨rfl, rfl, rfl, by decide +kernel, rfl, by decide +kernel, by decide +kernel⟩
theorem k_run_end (T : Txt K mg A) : Ok P w K mg base 2 "run_end" (spRunEnd P w K mg base) := by
  refine ok_mk T.d_run_end sc_run_end (fun vs H Q E ⟨_, _, _, _, _, e, _⟩ => by rw [e]; rfl) fun f cdv AA outer s H vs Q E hr tk po h => ?_
  obtain ⟨a, g, b, i, p, rfl, ⟨fd, ps, F, kp, bb⟩, ha, hi, q⟩ := h
  refine ⟨_, (pss_cons (ps_while po (PW.pt (pw_and (pt_cmpR op_lt (pv 1) (pe_len T.b_len (pv 0)) (nomark _)) (pw_and1 (pt_val (pe_callL (i := 2) F (hr.mono (by decide)) rfl (.inl rfl) kp bb .nil (passes_call tk fun _ _ _ _ z => z) (pa_cons (pe_ix ix_list (pv 0) (pv 1) (fun _ _ => rfl)) pa_nil)))))) (pss_one (ps_aug (i := 1) sc_run_end.nd rfl (.inl rfl) pe_int ip_add)))
    (pss_one (ps_ret (pv 1)))), ?_⟩
  have bl : (b.map iB).length = b.length := List.length_map ..
  refine ⟨fun m σ G => G = H ∧ ∃ j, σ = [some (.ref a), some (nV j), some (.ref g)] ∧ m = b.length - j ∧ j ≤ b.length ∧ j + ((b.drop j).takeWhile p).length = i + ((b.drop i).takeWhile p).length, ⟨_, rfl, i, rfl, rfl, hi, rfl⟩, ?_⟩
  rintro m σ G ⟨rfl, j, rfl, rfl, hj, e⟩
  refine ⟨_, rfl, _, rfl, a, _, rfl, SqL.of ha, ?_⟩
  refine ⟨_, _, rfl, rfl, _, rfl, if_2 (fun c => ?_) fun c => ?_⟩
  · have c := of_decide_eq_true c
    rw [bl] at c
    obtain ⟨x, hx⟩ := get_of_lt (l := b) (i := j) (by omega)
    have hd := drop_more hx
    rw [hd, tw_at] at e
    have gx : (b.map iB)[j]? = some (iB x) := by rw [List.getElem?_map, hx]; rfl
    refine ⟨rfl, _, rfl, _, rfl, a, _, _, _, rfl, rfl, SqL.of ha, at_n gx rfl, x, rfl, _, rfl, if_2 (fun k => ?_) fun k => ?_⟩
    · rw [if_pos k] at e
      refine ⟨fun σ' H' => H' = G ∧ σ' = [some (.ref a), some (nV (j + 1)), some (.ref g)], ?_, ?_⟩
      · rintro σ' H' ⟨rfl, rfl⟩
        exact ⟨b.length - (j + 1), by omega, rfl, j + 1, rfl, rfl, by omega, by omega⟩
      · exact ⟨_, rfl, _, _, rfl, rfl, rfl, rfl⟩
    · rw [if_neg (by rw [k]; exact Bool.false_ne_true), Nat.add_zero] at e
      exact ⟨_, rfl, e ▸ q⟩
  · have c := of_decide_eq_false c
    rw [bl] at c
    rw [List.drop_eq_nil_of_le (as := b) (i := j) (by omega), List.takeWhile_nil, List.length_nil, Nat.add_zero] at e
    exact ⟨_, rfl, e ▸ q⟩
/-- how many bytes the token has -/
def tokLen (c : UInt8) (m : Bytes) : Nat := if c = 59 then 1 else if isLetter c = true then ((c :: m).takeWhile isLetter).length else ((c :: m).takeWhile isDigit).length
theorem raiseF {H : Hp} {E : XK} {c p : Int} (T : Txt K mg A) (o : Out E H A.fa [("place", .int p), ("code", .int c)]) :
    [V.int c, V.int p].length ≤ 1000 ∧ ∀ a, H a = none → spIniF K (.ref a :: [.int c, .int p]) (upd H a (exo a A.fa none)) (fun v H2 => v = .non ∧ ∃ (d : Addr) (fs : List (Str × V)), H2 a = some (exo a A.fa (some d)) ∧ H2 d = some (exd d fs) ∧ H d = none ∧ E (.ref A.fa) (some d) (upd (del H2 a) d (.xd fs))) (fun _ _ _ => False) :=
  ⟨by show 2 ≤ 1000; decide, fun a ha => ⟨a, A.fa, c, p, rfl, upd_same, T.x_Fault.bm, T.x_Fault.no _ (by decide), T.x_Fault.no _ (by decide), made_out ha o⟩⟩
def spTokenEnd (A : Ad) : Sp := fun vs H Q E => ∃ (a : Addr) (b : Bytes) (p : Nat) (c : UInt8) (m : Bytes), vs = [.ref a, nV p] ∧ H a = some (.lst (b.map iB)) ∧ b.drop p = c :: m ∧
  ((c = 59 ∨ isLetter c = true ∨ isDigit c = true) → Q (nV (p + tokLen c m)) H) ∧ ((c ≠ 59 ∧ isLetter c = false ∧ isDigit c = false) → Out E H A.fa [("place", .int p), ("code", .int 2)])
theorem drop_at {α : Type} {b : List α} {p : Nat} {c : α} {m : List α} (h : b.drop p = c :: m) : b[p]? = some c := by
  have := congrArg List.head? h
  rw [List.head?_drop] at this
  exact this
abbrev N_token_end : List Str := ["script", "at"]
theorem sc_token_end : FnScope N_token_end ["script", "at"] (defScope (top 58)) := ⟨rfl, rfl, rfl, by decide +kernel, rfl, by decide +kernel, by decide +kernel⟩
theorem k_token_end (T : Txt K mg A) : Ok P w K mg base 3 "token_end" (spTokenEnd A) := by
  refine ok_mk T.d_token_end sc_token_end (fun vs H Q E ⟨_, _, _, _, _, e, _⟩ => by rw [e]; rfl) fun f cdv AA outer s H vs Q E hr tk po h => ?_
  obtain ⟨gl, Tl, Gl⟩ := tells_letter (P := P) (w := w) (base := base) T
  obtain ⟨gd, Td, Gd⟩ := tells_digit (P := P) (w := w) (base := base) T
  refine ⟨_, (pss_cons (ps_if (pt_cmpR op_eq (pe_ix ix_list (pv 0) (pv 1) (fun _ _ => rfl)) (pe_gv T.c_SEMICOLON) (nomark _)) (pss_one (ps_ret (pe_op op_add (pv 1) pe_int))) pss_nil)
    (pss_cons (ps_if (pt_val (pe_k (k_is_letter T) hr tk (pa_cons (pe_ix ix_list (pv 0) (pv 1) (fun _ _ => rfl)) pa_nil))) (pss_one (ps_ret (pe_k (k_run_end T) hr tk (pa_cons (pv 0) (pa_cons (pv 1) (pa_cons (pe_gv Gl) pa_nil)))))) pss_nil)
    (pss_cons (ps_if (pt_val (pe_k (k_is_digit T) hr tk (pa_cons (pe_ix ix_list (pv 0) (pv 1) (fun _ _ => rfl)) pa_nil))) (pss_one (ps_ret (pe_k (k_run_end T) hr tk (pa_cons (pv 0) (pa_cons (pv 1) (pa_cons (pe_gv Gd) pa_nil)))))) pss_nil)
    (pss_one (ps_raise rfl tk (pmk_ex (xk_Fault T) hr (pa_cons pe_int (pa_cons (pv 1) pa_nil)))))))), ?_⟩
  obtain ⟨a, b, p, c, m, rfl, ha, hd, q, o⟩ := h
  have hc := drop_at hd
  have hp := get_lt hc
  have gx : (b.map iB)[p]? = some (iB c) := by rw [List.getElem?_map, hc]; rfl
  refine ⟨_, rfl, _, rfl, a, _, _, _, rfl, rfl, SqL.of ha, at_n gx rfl, rfl, _, rfl, if_2 (fun k => ?_) fun k => ?_⟩
  · have k : c = 59 := UInt8.toNat.inj (by have := V.int.inj (of_decide_eq_true k); have : (59 : UInt8).toNat = 59 := rfl; omega)
    have q := q (.inl k)
    unfold tokLen at q
    rw [if_pos k] at q
    exact ⟨_, rfl, _, _, rfl, rfl, q⟩
  · have k : c ≠ 59 := fun z => of_decide_eq_false k (by rw [z]; rfl)
    refine ⟨_, rfl, _, rfl, a, _, _, _, rfl, rfl, SqL.of ha, at_n gx rfl, _, rfl, ?_⟩
    rw [isLetI_is]
    refine ⟨_, rfl, if_2 (fun g => ?_) fun g => ?_⟩
    · have q := q (.inr (.inl g))
      unfold tokLen at q
      rw [if_neg k, if_pos g] at q
      refine ⟨_, rfl, _, rfl, ?_⟩
      refine ⟨a, gl, b, p, isLetter, rfl, Tl, ha, Nat.le_of_lt hp, ?_⟩
      rw [hd]; exact q
    · refine ⟨_, rfl, _, rfl, a, _, _, _, rfl, rfl, SqL.of ha, at_n gx rfl, _, rfl, ?_⟩
      rw [isDigI_is]
      refine ⟨_, rfl, if_2 (fun d => ?_) fun d => ?_⟩
      · have q := q (.inr (.inr d))
        unfold tokLen at q
        rw [if_neg k, if_neg (by rw [g]; exact Bool.false_ne_true)] at q
        refine ⟨_, rfl, _, rfl, ?_⟩
        refine ⟨a, gd, b, p, isDigit, rfl, Td, ha, Nat.le_of_lt hp, ?_⟩
        rw [hd]; exact q
      · exact ⟨_, rfl, raiseF T (o ⟨k, g, d⟩)⟩
def spNumber (A : Ad) : Sp := fun vs H Q E => ∃ (a : Addr) (b : Bytes) (p : Nat) (c : UInt8) (l : Bytes), vs = [.ref a, nV p, nV (p + (c :: l).length)] ∧ H a = some (.lst (b.map iB)) ∧ b[p]? = some c ∧ (b.drop p).take (c :: l).length = c :: l ∧ p + (c :: l).length ≤ b.length ∧ (∀ x ∈ c :: l, isDigit x = true) ∧
  (∀ n, numberOf (c :: l) = some n → ∀ H', Same H H' → Q (nV n) H') ∧ (numberOf (c :: l) = none → Out E H A.fa [("place", .int p), ("code", .int 2)])
theorem dec_app (n : Nat) (l : Bytes) (c : UInt8) : dec n (l ++ [c]) = 10 * dec n l + (c.toNat - 48) := by unfold dec; rw [List.foldl_append]; rfl
theorem with_all {α : Type} {A O : α → Prop} {G : Prop} (h : (∀ x, A x → O x) → G) (r : ∀ x, A x → O x) : G := h r
abbrev N_number_value : List Str := ["script", "at", "end", "needless_zero", "value", "byte"]
theorem sc_number_value : FnScope N_number_value ["script", "at", "end"] (defScope (top 62)) := ⟨rfl, rfl, rfl, by decide +kernel, rfl, by decide +kernel, by decide +kernel⟩
theorem k_number_value (T : Txt K mg A) : Ok P w K mg base 3 "number_value" (spNumber A) := by
  refine ok_mk T.d_number_value sc_number_value (fun vs H Q E ⟨_, _, _, _, _, e, _⟩ => by rw [e]; rfl) fun f cdv AA outer s H vs Q E hr tk po h => ⟨_, (pss_cons (ps_set (i := 3) sc_number_value.nd rfl (Or.inl rfl) (pe_and (pe_cmpR op_eq (pe_ix ix_list (pv 0) (pv 1) (fun _ _ => rfl)) (pe_gv T.c_FIRST_DIGIT) (nomark _)) (pe_one (pe_cmpR op_gt (pe_op op_sub (pv 2) (pv 1)) pe_int (nomark _)))))
    (pss_cons (ps_if (PW.pt (pw_or (pt_val (pv 3)) (pw_or1 (pt_cmpR op_gt (pe_op op_sub (pv 2) (pv 1)) (pe_gv T.c_MOST_DIGITS) (nomark _))))) (pss_one (ps_raise rfl tk (pmk_ex (xk_Fault T) hr (pa_cons pe_int (pa_cons (pv 1) pa_nil))))) pss_nil)
    (pss_cons (ps_set (i := 4) sc_number_value.nd rfl (Or.inl rfl) pe_int)
    (pss_cons (ps_for po rfl (pi_list (pe_slice sl_list (pv 0) (po_some (pv 1)) (po_some (pv 2)))) (pg_name (i := 5) sc_number_value.nd rfl (Or.inl rfl)) (pss_one (ps_set (i := 4) sc_number_value.nd rfl (Or.inl rfl) (pe_op op_sub (pe_op op_add (pe_op op_mul (pv 4) pe_int) (pv 5)) (pe_gv T.c_FIRST_DIGIT)))))
    (pss_cons (ps_if (pt_cmpR op_gt (pv 4) (pe_gv T.c_GREATEST_NUMBER) (nomark _)) (pss_one (ps_raise rfl tk (pmk_ex (xk_Fault T) hr (pa_cons pe_int (pa_cons (pv 1) pa_nil))))) pss_nil)
    (pss_one (ps_ret (pv 4)))))))), ?_⟩
  obtain ⟨a, b, p, c, l, rfl, ha, hc, ht, hlen, dg, q, o⟩ := h
  have ne : c :: l ≠ [] := List.cons_ne_nil _ _
  rw [number_of ne] at q o
  have bl : (b.map iB).length = b.length := List.length_map ..
  have gx : (b.map iB)[p]? = some (iB c) := by rw [List.getElem?_map, hc]; rfl
  have refuse : (10 < (c :: l).length ∨ (1 < (c :: l).length ∧ (c :: l).head? = some 48) ∨ 1000000000 < dec 0 (c :: l)) → Out E H A.fa [("place", .int p), ("code", .int 2)] := fun z => o (if_pos z)
  have good : ¬ (10 < (c :: l).length ∨ (1 < (c :: l).length ∧ (c :: l).head? = some 48) ∨ 1000000000 < dec 0 (c :: l)) → ∀ H', Same H H' → Q (nV (dec 0 (c :: l))) H' := fun z => q _ (if_neg z)
  have ll : (c :: l).length = l.length + 1 := List.length_cons
  have hd : ∀ {x : Bool}, decide (V.int (c.toNat : Int) = V.int 48) = x → (x = true ↔ (c :: l).head? = some 48) := fun {x} e => by
    rw [← e, decide_eq_true_eq]
    refine ⟨fun k => ?_, fun k => ?_⟩
    · have : c = 48 := UInt8.toNat.inj (by have := V.int.inj k; have : (48 : UInt8).toNat = 48 := rfl; omega)
      rw [this]; rfl
    · have : c = 48 := Option.some.inj k
      rw [this]; rfl
  have dl : (c :: l).length = l.length + 1 := ll
  refine ⟨_, rfl, _, rfl, a, _, _, _, rfl, rfl, SqL.of ha, at_n gx rfl, rfl, _, rfl, ?_⟩
  refine with_all (A := fun nz : Bool => (nz = true ↔ (1 < (c :: l).length ∧ (c :: l).head? = some 48))) (O := ?O) (fun rest => if_2 (fun k => ?_) fun k => ?_) fun nz hnz => ?_
  rotate_left
  · have k := (hd (x := true) k).mp rfl
    refine ⟨_, rfl, _, rfl, _, _, rfl, rfl, ?_⟩
    refine ⟨_, _, rfl, rfl, ?_⟩
    dsimp only
    generalize hx : decide ((1 : Int) < ((p + (c :: l).length : Nat) : Int) - (p : Int)) = x
    refine rest x ⟨fun z => ⟨?_, k⟩, fun z => ?_⟩
    · rw [z] at hx
      have := of_decide_eq_true hx
      omega
    · rw [← hx]
      exact decide_eq_true (by omega)
  · have k : ¬ (c :: l).head? = some 48 := fun z => Bool.false_ne_true ((hd k).mpr z)
    exact rest false ⟨fun z => absurd z Bool.false_ne_true, fun z => absurd z.2 k⟩
  · refine ⟨_, rfl, nz, rfl, if_or (fun z => ⟨_, rfl, _, rfl, _, _, rfl, rfl, _, _, rfl, rfl, _, rfl, z⟩) (fun d => ?_) fun d1 d2 => ?_⟩
    · refine ⟨_, rfl, raiseF T (refuse ?_)⟩
      rcases d with d | d
      · exact .inr (.inl (hnz.mp d))
      · have := of_decide_eq_true d
        exact .inl (by omega)
    · have n1 : ¬ (1 < (c :: l).length ∧ (c :: l).head? = some 48) := fun z => by rw [hnz.mpr z] at d1; cases d1
      have n2 : ¬ 10 < (c :: l).length := by
        have := of_decide_eq_false d2
        omega
      refine ⟨_, rfl, _, rfl, _, rfl, _, rfl, _, rfl, a, _, rfl, SqL.of ha, fun S hS => ?_⟩
      rw [cutV_two _ _ _ (by rw [bl]; exact hlen), ← List.map_drop, ← List.map_take, show p + (c :: l).length - p = (c :: l).length by omega, ht]
      refine ⟨S, rfl, ⟨_, SqL.of upd_same⟩, ?_⟩
      refine for_list (K := K) (a := S) (xs := (c :: l).map iB) (fun i σ H' => ∃ x, σ = [some (.ref a), some (nV p), some (nV (p + (c :: l).length)), some (.bl nz), some (nV (dec 0 ((c :: l).take i))), x] ∧ H' = upd H S (.lst ((c :: l).map iB))) ?_ ?_ ?_ ?_
      · exact ⟨none, rfl, rfl⟩
      · rintro i σ H' _ ⟨x, rfl, rfl⟩
        exact SqL.of upd_same
      · rintro i x σ H' hx ⟨x0, rfl, rfl⟩
        obtain ⟨d, hdx, rfl⟩ := map_get hx
        have dd := dg d (List.mem_of_getElem? hdx)
        unfold isDigit at dd
        have dd := of_decide_eq_true dd
        refine ⟨_, rfl, _, _, rfl, rfl, .inr ⟨by decide, by decide⟩, ?_⟩
        refine ⟨_, rfl, _, _, rfl, rfl, ?_⟩
        refine ⟨_, _, rfl, rfl, ?_⟩
        refine ⟨some (iB d), ?_, rfl⟩
        rw [take_more hdx, dec_app]
        rw [show nV (10 * dec 0 (List.take i (c :: l)) + (d.toNat - 48)) = V.int (((dec 0 (List.take i (c :: l)) : Nat) : Int) * 10 + (d.toNat : Int) - 48) from congrArg V.int (show (((10 * dec 0 (List.take i (c :: l)) + (d.toNat - 48) : Nat)) : Int) = ((dec 0 (List.take i (c :: l)) : Nat) : Int) * 10 + (d.toNat : Int) - 48 by omega)]
        rfl
      · rintro σ H' ⟨x, rfl, rfl⟩
        rw [show ((c :: l).map iB).length = (c :: l).length from List.length_map .., List.take_length]
        refine ⟨_, rfl, _, _, rfl, rfl, _, rfl, if_2 (fun k => ?_) fun k => ?_⟩
        · have k := of_decide_eq_true k
          refine ⟨_, rfl, raiseF T ((refuse (.inr (.inr (by omega)))).mono (same_new hS))⟩
        · have k := of_decide_eq_false k
          exact ⟨_, rfl, good (fun z => z.elim n2 fun z => z.elim n1 fun z => k (by omega)) _ (same_new hS)⟩
end
end Lp
set_option maxRecDepth 100000
set_option maxHeartbeats 2000000
/-! Texts as they are made: a sign of a text, texts joined. -/
namespace Lp
open PySem PySem.Spec PyProof.Rows L2
open VasedBase (Bytes isLetter)
/-- a text, as an object made between two times -/
def okB (lo hi : Nat) (v : V) (u : Value) : Prop := ∃ c t, v = .str c ∧ u = .str c t ∧ lo ≤ t ∧ t < hi
def tIxsR (ta tb : TE) : TR := fun σ G z Q => ta σ G fun x G1 => tb σ G1 fun y G2 => ∃ v i c, x = .str v ∧ y = .int i ∧ v.length ≤ sizeLine ∧ atI v.cps.toList i = some c ∧ ∀ (t : Nat) (s : Shared), z.toks ≤ t → t < s.toks → Q (.str ⟨#[c]⟩ t) G2 s
section
variable {X : Cx} {a b : Expr} {ta tb : TE} {pos : Pos}
theorem pr_ixs (ha : PE X a ta) (hb : PE X b tb) (hs : PlainIx b) : PR X (.Subscript a b pos) (tIxsR ta tb) := ⟨fun pins z σ G Q I h =>
  Subscript_ (wp_le (ha.run pins z σ G _ I h) fun v y le ⟨x, G1, J, r, q⟩ => wp_le (hb.run pins y σ G1 _ J q) fun u s le2 ⟨yv, G2, J2, r2, c, i, d, ex, ey, hz, he, k⟩ => by
    subst ex ey
    obtain ⟨t, rfl⟩ := r
    obtain ⟨t', rfl⟩ := r2
    obtain ⟨j, h1, h2, h3, h4, h5⟩ := atI_get he
    have hl : c.cps.toList.length = c.length := by simp [Str.length]
    rw [hl] at h1 h4 h5
    have hn := line63
    exact tail_any (typeIs_str s c t) slot_str_getitem.lookup (getItem_str (c := d) (by
      rw [decide_eq_false (show ¬ i < -(2 ^ 63 : Int) by omega), decide_eq_false (show ¬ i ≥ 2 ^ 63 by omega)]; rfl) (by rw [h1]; simpa using h2) ⟨G2, J2.tok _, k s.toks _ (Nat.le_trans le le2) (Nat.lt_succ_self _)⟩) (hs _ _))⟩
def tJoinR (to : TE) (te : TR) : TR := fun σ G z Q => to σ G fun x G1 => (∃ a, x = .str a) ∧ ∀ y : Shared, z.toks ≤ y.toks → te σ G1 y fun u G2 s => ∃ a D lo hi ys, x = .str a ∧ u = .ref D ∧ G2 D = some (GL D (okB lo hi) (ys.map V.str)) ∧ lo ≤ s.toks ∧ hi ≤ s.toks ∧ (ys.map (·.length)).sum + ys.length * a.length ≤ 16777216 ∧
  ∀ (t : Nat) (s' : Shared), lo ≤ t → t < s'.toks → Q (.str (Txt.join a ys) t) G2 s'
theorem values_of {lo hi : Nat} : ∀ {ys : List Str} {its : List Value}, Paired (okB lo hi) (ys.map V.str) its → ∃ l : List (Str × PySem.Tok), its = strValues l ∧ l.map (·.1) = ys ∧ ∀ p ∈ l, lo ≤ p.2 ∧ p.2 < hi
  | [], _, .nil => ⟨[], rfl, rfl, fun p h => by cases h⟩
  | y :: ys, _, .cons ⟨c, t, e, eu, h1, h2⟩ r => by
    obtain ⟨l, e1, e2, e3⟩ := values_of r
    cases e
    subst eu
    refine ⟨(y, t) :: l, by rw [e1]; rfl, by rw [List.map_cons, e2], fun p hp => ?_⟩
    rcases List.mem_cons.mp hp with z | z
    · rw [z]; exact ⟨h1, h2⟩
    · exact e3 p z
theorem join_run {A : Around} {E : Value → Shared → Prop} {prog : Program} {w : World} {s : Shared} {x : Str} {t : PySem.Tok} {Q : Value → Shared → Prop} {D : Addr} {l : List (Str × PySem.Tok)} (hl : s.heap.IsList D (strValues l).toArray) (hok : ((l.map (·.1)).map (·.length)).sum + (l.map (·.1)).length * x.length ≤ 16777216)
    (h : ∀ t' k, ((∃ p ∈ l, t' = p.2) ∧ k = s.toks ∨ t' = s.toks ∧ k = s.toks + 1) → Q (.str (Txt.join x (l.map (·.1))) t') { s with toks := k }) : wpAny (model prog w) A (call (.builtin "str.join") [.str x t, .ref D]) Q E s := by
  have ok := joinOk_of hok
  unfold JoinOk at ok
  rw [Bool.not_eq_true'] at ok
  refine call_meets PySem.F.slot_str_join (typeIs_str _ _ _) PySem.F.entry_str_join (PySem.F.args_str_join_2 _ _) (meets_str_join_list x t D l ok) ⟨hl, ?_⟩
  have fit := joinFit_length ok
  match l, h, fit with
  | [], h, fit => exact ⟨fit, h _ _ (.inr ⟨rfl, rfl⟩)⟩
  | [p], h, fit => exact h p.2 s.toks (.inl ⟨⟨p, List.mem_singleton.mpr rfl, rfl⟩, rfl⟩)
  | _ :: _ :: _, h, fit => exact ⟨fit, h _ _ (.inr ⟨rfl, rfl⟩)⟩
theorem pr_join {o e : Expr} {to : TE} {te : TR} {apos : Pos} (ho : PE X o to) (he : PR X e te) (hs : starEach [e] X.env = [(false, eval e X.env)] := by rfl) (hbase : attributeBase o "join" X.env (eval o X.env) = eval o X.env := by rfl) (hline : (apos.endLine == pos.line) = true := by rfl) :
    PR X (.Call (.Attribute o "join" apos) [e] [] pos) (tJoinR to te) := ⟨fun pins z σ G Q I h => by
  refine PySem.Call_method1 hbase hs hline (wp_le (ho.run pins z σ G _ I h) fun v y le ⟨x, G1, J, r, ⟨a, ex⟩, q⟩ => ?_)
  subst ex
  obtain ⟨t, rfl⟩ := r
  refine ⟨"str", _, PySem.F.plainAttrs_str, PySem.F.slot_str_join, PySem.F.type_str_join, typeIs_str _ _ _, (fun _ e => nomatch e), Calls.callWith_builtin rfl (Calls.evalArgs_plain (Calls.spliced_cons ?_))⟩
  refine thn (he.run pins y σ G1 _ J (q y le)) fun u s ⟨G2, J2, a', D, lo, hi, ys, ea, eu, hD, l1, l2, hz, k⟩ => Calls.spliced_nil ?_
  cases ea
  subst eu
  obtain ⟨⟨its, n, ri, e⟩, _⟩ := J2.hok D _ hD
  obtain ⟨l, e1, e2, e3⟩ := values_of ri
  subst e1 e2
  refine join_run ⟨_, e, rfl, n, rfl⟩ hz fun t' k' c => ⟨G2, J2.tok _, k t' _ ?_ ?_⟩
  · rcases c with ⟨⟨p, hp, rfl⟩, _⟩ | ⟨rfl, _⟩
    · exact (e3 p hp).1
    · exact l1
  · rcases c with ⟨⟨p, hp, rfl⟩, rfl⟩ | ⟨rfl, rfl⟩
    · exact Nat.lt_of_lt_of_le (e3 p hp).2 l2
    · exact Nat.lt_succ_self _⟩
end
end Lp
set_option maxRecDepth 100000
set_option maxHeartbeats 2000000
namespace Lp
open PySem PySem.Spec PyProof.Rows L2
open VasedBase (Bytes isLetter isDigit isBlank Tok PTok Toks tokens token numberOf)
section
variable {P : Program} {w : World} {K : PySem.W.Frag} {mg : Str → Option Value} {base : Heap} {A : Ad}
theorem okr_mk {x : Str} {st : Stmt} {N ps : List Str} {k : Nat} {sp : SpR} (F : Dfn K mg x st ps) (S : FnScope N ps (defScope st)) (len : ∀ vs H z Q E, sp vs H z Q E → vs.length = ps.length)
    (body : ∀ (f : Addr) (cdv : Value) (A : Around) (outer : List Env) (z : Shared) (G : Hp) (vs : List V) (Q : SV) (E : XK), Room k (A.deeper (envOfC x (defScope st) z.heap.objs.size f cdv)) →
      Takes (cxOf (L2.CX P w) P w K mg base N x (defScope st) f cdv A outer z G E) (fun cls d _ H => E cls d H) → PassesOwn (model P w) (A.deeper (envOfC x (defScope st) z.heap.objs.size f cdv)) (envOfC x (defScope st) z.heap.objs.size f cdv) (cxOf (L2.CX P w) P w K mg base N x (defScope st) f cdv A outer z G E).xe → sp vs G z Q E →
      ∃ t, PSsR (cxOf (L2.CX P w) P w K mg base N x (defScope st) f cdv A outer z G E) (defBody st) t ∧ ∀ y, z.toks ≤ y.toks → t { nx := fun _ G1 => Q .none G1, rt := Q } (start N vs) G y) : OkR P w K mg base (k + 1) x sp := by
  obtain ⟨f, fd, Fn, hm, hb⟩ := F.ex
  exact ⟨f, fd, ps, fnr_mk Fn S len (body f), hm, Fn.kp, hb⟩
def spLetterR : SpR := fun vs H z Q _ => ∃ b : UInt8, vs = [iB b] ∧ isLetter b = true ∧ ∀ (t : Nat) (s : Shared), z.toks ≤ t → t < s.toks → Q (.str (toS [b]) t) H s
theorem k_letter_of_R (T : Txt K mg A) : OkR P w K mg base 1 "letter_of" spLetterR := by
  refine okr_mk T.d_letter_of sc_letter_of (fun vs H z Q E ⟨b, e, _⟩ => by rw [e]; rfl) fun f cdv AA outer z G vs Q E hr tk po h => ⟨_, (pssr_one (psr_ret (pr_ixs (pe_gv T.c_LETTERS) (pe_op op_sub (pv 0) (pe_gv T.c_FIRST_LETTER)) (fun _ _ => rfl)))), fun y le => ?_⟩
  obtain ⟨b, rfl, hb, q⟩ := h
  unfold isLetter at hb
  have hb := of_decide_eq_true hb
  refine ⟨_, rfl, _, _, rfl, rfl, ?_⟩
  refine ⟨_, _, b.toNat, rfl, rfl, by decide +kernel, ?_, fun t s h1 h2 => q t s (Nat.le_trans le h1) h2⟩
  rw [abc_is]
  refine at_n (j := b.toNat - 97) ?_ (by omega)
  have := abc_get ⟨b.toNat - 97, by omega⟩
  rw [this]
  exact congrArg some (show b.toNat - 97 + 97 = b.toNat by omega)
/-- over a list: what is known by the turn, the heap and the state -/
theorem lcr_list {a D : Addr} {xs : List V} {g : TG} {te : TR} {vs : List Nat} {σ : L2.St} {H1 : Hp} {z1 : Shared} {Qd : Hp → Shared → Prop} (ok0 : V → Value → Prop) (I : Nat → Hp → Shared → Prop) (h0 : ∀ z2, z1.toks ≤ z2.toks → I 0 (upd H1 D (GL D ok0 [])) z2) (hl : ∀ i G z, I i G z → SqL K G a xs)
    (hs : ∀ i x G z, xs[i]? = some x → I i G z → g x (wipe σ vs) G fun σ2 G2 => wipe σ2 vs = wipe σ vs ∧ ∀ y : Shared, z.toks ≤ y.toks → te σ2 G2 y fun u G3 x3 => ∃ acc v3 ok ok', G3 D = some (GL D ok acc) ∧ acc.length < sizeLine ∧ (∀ a b, ok a b → ok' a b) ∧ ok' v3 u ∧ ∀ x4 : Shared, x3.toks ≤ x4.toks → I (i + 1) (upd G3 D (GL D ok' (acc ++ [v3]))) x4)
    (hd : ∀ G z, I xs.length G z → ∀ y : Shared, z.toks ≤ y.toks → Qd G y) :
    ∃ (ok0 : V → Value → Prop) (W : Nat → Nat → Hp → Shared → Prop), (∃ m, ∀ z2 : Shared, z1.toks ≤ z2.toks → W 0 m (upd H1 D (GL D ok0 [])) z2) ∧ ∀ i m G x, W i m G x →
      ((Itl K a).stop i G ∧ ∀ y : Shared, x.toks ≤ y.toks → Qd G y) ∨ ((Itl K a).go i G ∧ ∃ Nx : Hp → Shared → Prop, (∀ G' x', Nx G' x' → ∃ m', m' < m ∧ W (i + 1) m' G' x') ∧ ∀ v G1, (Itl K a).yld i G v G1 → g v (wipe σ vs) G1 fun σ2 G2 => wipe σ2 vs = wipe σ vs ∧
        ∀ y : Shared, x.toks ≤ y.toks → te σ2 G2 y fun u G3 x3 => ∃ acc v3 ok ok', G3 D = some (GL D ok acc) ∧ acc.length < sizeLine ∧ (∀ a b, ok a b → ok' a b) ∧ ok' v3 u ∧ ∀ x4 : Shared, x3.toks ≤ x4.toks → Nx (upd G3 D (GL D ok' (acc ++ [v3]))) x4) := by
  refine ⟨ok0, fun i m G z => m = xs.length - i ∧ i ≤ xs.length ∧ I i G z, ⟨xs.length, fun z2 le => ⟨rfl, Nat.zero_le _, h0 z2 le⟩⟩, fun i m G x ⟨em, hi, k⟩ => ?_⟩
  subst em
  rcases Nat.lt_or_ge i xs.length with lt | ge
  · refine .inr ⟨⟨xs, xs[i], hl i G x k, by simp [lt]⟩, I (i + 1), fun G' x' p => ⟨_, by omega, rfl, lt, p⟩, fun v G1 y => ?_⟩
    obtain ⟨e, y⟩ := y
    subst e
    exact hs i v _ x (y xs (hl i _ x k)) k
  · have e : i = xs.length := Nat.le_antisymm hi ge
    subst e
    exact .inl ⟨⟨xs, hl _ G x k, Nat.le_refl _⟩, hd G x k⟩
def spWordR (A : Ad) : SpR := fun vs H z Q E => ∃ (a : Addr) (b : Bytes) (p : Nat) (l : Bytes), vs = [.ref a, nV p, nV (p + l.length)] ∧ H a = some (.lst (b.map iB)) ∧ (b.drop p).take l.length = l ∧ p + l.length ≤ b.length ∧ (∀ c ∈ l, isLetter c = true) ∧
  (l.length ≤ 8 → ∀ (t : Nat) (s : Shared) H', Same H H' → z.toks ≤ t → t < s.toks → Q (.str (toS l) t) H' s) ∧ (8 < l.length → Out E H A.fa [("place", .int p), ("code", .int 2)])
theorem sum_one : ∀ l : Bytes, ((l.map fun c => toS [c]).map (·.length)).sum = l.length
  | [] => rfl
  | c :: l => by
    rw [List.map_cons, List.map_cons, List.sum_cons, sum_one l, List.length_cons]
    show 1 + _ = _
    omega
theorem flat_one : ∀ l : Bytes, (l.map fun c => [c]).flatten = l
  | [] => rfl
  | c :: l => by rw [List.map_cons, List.flatten_cons, flat_one l]; rfl
abbrev N_word_value : List Str := ["script", "at", "end", "byte"]
theorem sc_word_value : FnScope N_word_value ["script", "at", "end"] (defScope (top 61)) := ⟨rfl, rfl, rfl, by decide +kernel, rfl, by decide +kernel, by decide +kernel⟩
theorem k_word_value (T : Txt K mg A) : OkR P w K mg base 3 "word_value" (spWordR A) := by
  refine okr_mk T.d_word_value sc_word_value (fun vs H z Q E ⟨_, _, _, _, e, _⟩ => by rw [e]; rfl) fun f cdv AA outer z G vs Q E hr tk po h => ⟨_, (pssr_cons (psr_up (ps_if (pt_cmpR op_gt (pe_op op_sub (pv 2) (pv 1)) (pe_gv T.c_LONGEST_WORD) (nomark _)) (pss_one (ps_raise rfl tk (pmk_ex (xk_Fault T) hr (pa_cons pe_int (pa_cons (pv 1) pa_nil))))) pss_nil))
    (pssr_one (psr_ret (pr_join pe_str (pr_lc (own := [("byte", 3)]) (g := gName 3) rfl sc_word_value.nd (pi_list (pe_slice sl_list (pv 0) (po_some (pv 1)) (po_some (pv 2)))) (blkOk_by (own := [("byte", 3)]) (N := N_word_value) (sc := defScope (top 61)) (by decide +kernel)) (fun _ _ _ _ _ => pg_name (i := 3) sc_word_value.nd rfl (Or.inl rfl)) (fun _ _ _ _ _ => pr_k (k_letter_of_R T) hr takes0 (par_up (pa_cons (pv 3) pa_nil)))))))), fun y le => ?_⟩
  obtain ⟨a, b, p, l, rfl, ha, ht, hlen, hl, q, o⟩ := h
  have bl : (b.map iB).length = b.length := List.length_map ..
  refine ⟨_, rfl, _, rfl, _, _, rfl, rfl, ?_⟩
  refine ⟨_, _, rfl, rfl, _, rfl, if_2 (fun k => ?_) fun k => ?_⟩
  · have k := of_decide_eq_true k
    exact ⟨_, rfl, raiseF T (o (by omega))⟩
  · have k := of_decide_eq_false k
    have l8 : l.length ≤ 8 := by omega
    intro y2 le2
    refine ⟨⟨_, rfl⟩, fun y3 le3 => ?_⟩
    refine ⟨_, rfl, _, rfl, _, rfl, _, rfl, _, rfl, a, _, rfl, SqL.of ha, fun S hS => ?_⟩
    rw [cutV_two _ _ _ (by rw [bl]; exact hlen), ← List.map_drop, ← List.map_take, show p + l.length - p = l.length by omega, ht]
    refine ⟨S, rfl, ⟨_, SqL.of upd_same⟩, fun D z1 hD le4 => ?_⟩
    have hDG : G D = none := none_back (same_new hS) hD
    have nSD : S ≠ D := fun z => by rw [z, upd_same] at hD; cases hD
    refine lcr_list (K := K) (a := S) (xs := l.map iB) (okB y3.toks y3.toks) (fun i G' x => ∃ hi, hi ≤ x.toks ∧ y3.toks ≤ x.toks ∧ G' = upd (upd G S (.lst (l.map iB))) D (GL D (okB y3.toks hi) ((l.take i).map fun c => sV [c]))) (fun z2 l5 => ⟨y3.toks, by omega, by omega, rfl⟩) ?_ ?_ ?_
    · rintro i G' x ⟨hi, _, _, rfl⟩
      exact SqL.of ((upd_ne nSD).trans upd_same)
    · rintro i v G' x hx ⟨hi, h1, h2, rfl⟩
      obtain ⟨c, hc, rfl⟩ := map_get hx
      refine ⟨rfl, fun y5 l5 => ?_⟩
      refine ⟨_, rfl, fun us y6 l6 hv => ⟨_, hv, c, rfl, hl c (List.mem_of_getElem? hc), fun t s t1 t2 le7 => ?_⟩⟩
      refine ⟨_, sV [c], okB y3.toks hi, okB y3.toks (Nat.max hi (t + 1)), upd_same, ?_, ?_, ?_, fun x4 l4 => ⟨Nat.max hi (t + 1), ?_, ?_, ?_⟩⟩
      · rw [List.length_map, List.length_take]
        exact sz_lt (Nat.lt_of_le_of_lt (Nat.min_le_right _ _) (by omega))
      · rintro v u ⟨c', t', e1, e2, e3, e4⟩
        exact ⟨c', t', e1, e2, e3, Nat.lt_of_lt_of_le e4 (Nat.le_max_left _ _)⟩
      · exact ⟨_, t, rfl, rfl, by omega, Nat.lt_of_lt_of_le (Nat.lt_succ_self _) (Nat.le_max_right _ _)⟩
      · exact Nat.max_le.mpr ⟨by omega, by omega⟩
      · omega
      · rw [upd_upd, take_more hc, List.map_append]; rfl
    · rintro G' x ⟨hi, h1, h2, rfl⟩ y5 l5
      rw [show (l.map iB).length = l.length from List.length_map .., List.take_length]
      refine ⟨_, D, y3.toks, hi, l.map fun c => toS [c], rfl, rfl, ?_, by omega, by omega, ?_, fun t s t1 t2 => ?_⟩
      · rw [upd_same, List.map_map]; rfl
      · have : ((l.map fun c => toS [c]).map (·.length)).sum = l.length := sum_one l
        rw [this, List.length_map]
        show l.length + l.length * 0 ≤ 16777216
        omega
      · rw [show Txt.join (Str.ofString "") (l.map fun c => toS [c]) = toS l from by
          rw [show (l.map fun c => toS [c]) = (l.map fun c => [c]).map toS from by rw [List.map_map]; rfl, join_toS, flat_one]]
        exact q l8 t s _ (same_trans (same_new hS) (same_new hD)) (by omega) t2
end
end Lp
set_option maxRecDepth 100000
set_option maxHeartbeats 2000000
namespace Lp
open PySem PySem.Spec PyProof.Rows L2
open VasedBase (Bytes isLetter isDigit isBlank Tok PTok Toks tokens token numberOf)
/-- what a token says -/
def tokV : VasedBase.Tok → V
  | .name w => sV w
  | .num n => nV n
  | .sign _ => .str ";"
  | .last => .str ""
/-- n, a number as written -/
def tIntR (n : Int) : TR := fun _ G z Q => ∀ u y, RelV (.int n) u → y.toks = z.toks + 1 → Q u G y
theorem pr_int {X : Cx} {n : Int} {j : Nat} {pos : Pos} : PR X (.Constant (.int n) j pos) (tIntR n) := ⟨fun pins z σ G Q I h => wpAny_Constant_int ⟨G, I.tok _, h _ _ ⟨_, rfl⟩ rfl⟩⟩
def tCallU (sp : Sp) (E : L2.St → XK) (t : TAR) : TR := fun σ G z Q => t σ G z fun us G1 y => ∃ vs, Vals vs us ∧ sp vs G1 (fun v G2 => ∀ u x, y.toks ≤ x.toks → RelV v u → Q u G2 x) (E σ)
theorem pr_ku {X : Cx} {k j : Nat} {x : Str} {sp : Sp} {W : WX} {p pos : Pos} {e : Expr} {es : List Expr} {t : TAR} (c : Ok X.prog X.w X.K X.mg X.base k x sp) (hr : Room j X.A) (tk : Takes X W) (ha : PAR X (e :: es) t) (hk : k ≤ j := by decide) (hg : Gl X x := by rfl)
    (hdb : (x == ("__debug__" : Str)) = false := by decide) (he : starEach (e :: es) X.env = (false, eval e X.env) :: starEach es X.env := by rfl) (hpl : (backTo pos (starEach es X.env)).any (·.1) = false := by rfl) :
    PR X (.Call (.Name x p) (e :: es) [] pos) (tCallU sp (WE W) t) := by
  obtain ⟨f, fd, ps, F, hm, kp, b⟩ := c.ex
  refine ⟨fun pins z σ G Q I q => wpAny_Call_Name_kw (ld_glob I hg hm ?_ hdb)⟩
  exact PySem.W.callWith_K (h₀ := X.base) I.ok.mod.kin kp (thn (ha.run pos pins z σ G _ I q) fun us y ⟨G1, J, vs, r, k⟩ => ⟨J.kIn, wp_le (run_fnS F (hr.mono hk) b (passAt tk σ) J r k) fun u x le ⟨v, G2, J2, rv, q2⟩ => ⟨G2, J2, q2 u x le rv⟩⟩) he hpl
theorem tw_take (p : UInt8 → Bool) : ∀ l : Bytes, l.take (l.takeWhile p).length = l.takeWhile p
  | [] => rfl
  | c :: l => by
    by_cases h : p c = true
    · rw [List.takeWhile_cons, if_pos h, List.length_cons, List.take_succ_cons, tw_take p l]
    · rw [List.takeWhile_cons, if_neg h]; rfl
theorem tw_le (p : UInt8 → Bool) (l : Bytes) : (l.takeWhile p).length ≤ l.length := (List.takeWhile_sublist p (l := l)).length_le
section
variable {P : Program} {w : World} {K : PySem.W.Frag} {mg : Str → Option Value} {base : Heap} {A : Ad}
def spTokValR (A : Ad) : SpR := fun vs H z Q E => ∃ (a : Addr) (b : Bytes) (p : Nat) (c : UInt8) (m : Bytes), vs = [.ref a, nV p, nV (p + tokLen c m)] ∧ H a = some (.lst (b.map iB)) ∧ b.drop p = c :: m ∧ (c = 59 ∨ isLetter c = true ∨ isDigit c = true) ∧
  (∀ x n, token (c :: m) = some (x, n) → n = tokLen c m → ∀ (u : Value) (s : Shared) H', Same H H' → RelV (tokV x) u → (∀ y t, x = .name y → u = .str (toS y) t → z.toks ≤ t ∧ t < s.toks) → Q u H' s) ∧ (token (c :: m) = none → Out E H A.fa [("place", .int p), ("code", .int 2)])
abbrev N_token_value : List Str := ["script", "at", "end"]
theorem sc_token_value : FnScope N_token_value ["script", "at", "end"] (defScope (top 60)) := ⟨rfl, rfl, rfl, by decide +kernel, rfl, by decide +kernel, by decide +kernel⟩
theorem k_token_value (T : Txt K mg A) : OkR P w K mg base 4 "token_value" (spTokValR A) := by
  refine okr_mk T.d_token_value sc_token_value (fun vs H z Q E ⟨_, _, _, _, _, e, _⟩ => by rw [e]; rfl) fun f cdv AA outer z G vs Q E hr tk po h => ⟨_, (pssr_cons (psr_if (pt_cmpR op_eq (pe_ix ix_list (pv 0) (pv 1) (fun _ _ => rfl)) (pe_gv T.c_SEMICOLON) (nomark _)) (pssr_up (pss_one (ps_ret (pe_gv T.c_SIGN)))) (pssr_up pss_nil))
    (pssr_cons (psr_if (pt_val (pe_k (k_is_letter T) hr tk (pa_cons (pe_ix ix_list (pv 0) (pv 1) (fun _ _ => rfl)) pa_nil))) (pssr_one (psr_ret (pr_k (k_word_value T) hr tk (par_up (pa_cons (pv 0) (pa_cons (pv 1) (pa_cons (pv 2) pa_nil))))))) (pssr_up pss_nil))
    (pssr_one (psr_ret (pr_up (pe_k (k_number_value T) hr tk (pa_cons (pv 0) (pa_cons (pv 1) (pa_cons (pv 2) pa_nil))))))))), fun y le => ?_⟩
  obtain ⟨a, b, p, c, m, rfl, ha, hd, kind, q, o⟩ := h
  have hc := drop_at hd
  have hp := get_lt hc
  have bl : b.length = p + (c :: m).length := by
    have := congrArg List.length hd
    rw [List.length_drop] at this
    omega
  have gx : (b.map iB)[p]? = some (iB c) := by rw [List.getElem?_map, hc]; rfl
  refine ⟨_, rfl, _, rfl, a, _, _, _, rfl, rfl, SqL.of ha, at_n gx rfl, rfl, _, rfl, fun y1 l1 => if_2 (fun k => ?_) fun k => ?_⟩
  · have k : c = 59 := UInt8.toNat.inj (by have := V.int.inj (of_decide_eq_true k); have : (59 : UInt8).toNat = 59 := rfl; omega)
    subst k
    exact fun u s l2 r => q (.sign 59) 1 (tok_sign m) rfl u s G (Same.refl _) r fun y t e => by cases e
  · have k : c ≠ 59 := fun z => of_decide_eq_false k (by rw [z]; rfl)
    refine fun y2 l2 => ?_
    refine ⟨_, rfl, _, rfl, a, _, _, _, rfl, rfl, SqL.of ha, at_n gx rfl, _, rfl, ?_⟩
    rw [isLetI_is]
    refine ⟨_, rfl, fun y3 l3 => if_2 (fun g => ?_) fun g => ?_⟩
    · have tl : tokLen c m = ((c :: m).takeWhile isLetter).length := by unfold tokLen; rw [if_neg k, if_pos g]
      rw [tl] at q ⊢
      rw [tok_word g] at q o
      have wl := tw_le isLetter (c :: m)
      refine ⟨_, rfl, _, rfl, _, rfl, fun us y4 l4 hv => ⟨_, hv, a, b, p, (c :: m).takeWhile isLetter, rfl, ha, ?_, ?_, tw_all _ _, fun l8 t s H' e t1 t2 l5 => ?_, fun l8 => o (if_pos l8)⟩⟩
      · rw [hd]; exact tw_take _ _
      · omega
      · refine q _ _ (if_neg (by omega)) rfl _ s H' e ⟨t, rfl⟩ fun y t' ey et => ?_
        injection et with _ e2
        subst e2
        exact ⟨by omega, t2⟩
    · have d : isDigit c = true := kind.resolve_left k |>.resolve_left (by rw [g]; exact Bool.false_ne_true)
      have tl : tokLen c m = ((c :: m).takeWhile isDigit).length := by unfold tokLen; rw [if_neg k, if_neg (by rw [g]; exact Bool.false_ne_true)]
      rw [tl] at q ⊢
      rw [tok_num d] at q o
      have wl := tw_le isDigit (c :: m)
      have hcons : (c :: m).takeWhile isDigit = c :: m.takeWhile isDigit := by rw [List.takeWhile_cons, if_pos d]
      have all := tw_all isDigit (c :: m)
      have tt := tw_take isDigit (c :: m)
      rw [hcons] at q o wl all tt ⊢
      refine fun y4 l4 => ?_
      refine ⟨_, rfl, _, rfl, _, rfl, a, b, p, c, m.takeWhile isDigit, rfl, ha, hc, ?_, ?_, all, fun n hn H' e u s l5 r => ?_, fun hn => o (by rw [hn]; rfl)⟩
      · rw [hd]; exact tt
      · omega
      · exact q (.num n) _ (by rw [hn]; rfl) rfl u s H' e r fun y t ey => by cases ey
end
end Lp
set_option maxRecDepth 100000
set_option maxHeartbeats 2000000
namespace Lp
open PySem PySem.Spec PyProof.Rows L2
open VasedBase (Bytes isLetter isDigit isBlank Tok PTok Toks tokens token numberOf)
/-- the tokens, each with its value as it stands -/
abbrev TL := List (PTok × Value)
def nameTok (m : PTok × Value) : Option Nat := match m.1.tok, m.2 with
  | .name _, .str _ t => some t
  | _, _ => none
/-- the words are objects of their own, made one behind the other, all ahead of U -/
structure Sep (U : Nat) (l : TL) : Prop where
  pos : ∀ (i : Nat) m t, l[i]? = some m → nameTok m = some t → 1 ≤ t ∧ t < U
  lt : ∀ (i j : Nat) m m' t t', i < j → l[i]? = some m → l[j]? = some m' → nameTok m = some t → nameTok m' = some t' → t < t'
theorem Sep.nil (U : Nat) : Sep U [] := ⟨fun i m t h => by simp at h, fun i j m m' t t' _ h => by simp at h⟩
theorem Sep.snoc {U U' : Nat} {l : TL} {m : PTok × Value} (s : Sep U l) (le : U ≤ U') (h : ∀ t, nameTok m = some t → 1 ≤ t ∧ U ≤ t ∧ t < U') : Sep U' (l ++ [m]) := by
  have at_ : ∀ {i : Nat} {x}, (l ++ [m])[i]? = some x → l[i]? = some x ∨ (i = l.length ∧ x = m) := fun {i x} e => by
    rcases Nat.lt_or_ge i l.length with c | c
    · rw [List.getElem?_append_left c] at e; exact .inl e
    · rw [List.getElem?_append_right c] at e
      have : i - l.length = 0 := by
        have := get_lt e
        simp at this; omega
      rw [this] at e
      exact .inr ⟨by omega, (Option.some.inj e).symm⟩
  refine ⟨fun i x t e n => ?_, fun i j x y t t' ij e1 e2 n1 n2 => ?_⟩
  · rcases at_ e with e | ⟨_, rfl⟩
    · have := s.pos i x t e n; omega
    · have := h t n; omega
  · rcases at_ e2 with e2 | ⟨rfl, rfl⟩
    · rcases at_ e1 with e1 | ⟨rfl, _⟩
      · exact s.lt i j x y t t' ij e1 e2 n1 n2
      · have := get_lt e2; omega
    · rcases at_ e1 with e1 | ⟨rfl, _⟩
      · have := s.pos i x t e1 n1
        have := h t' n2
        omega
      · omega
/-- the list of the tokens at D -/
structure TokL (A : Ad) (G : Hp) (D : Addr) (tl : TL) : Prop where
  ex : ∃ rs : List Addr, G D = some (.lst (rs.map V.ref)) ∧ AllAt (fun r m => TokAt A.to G r m.2 m.1.place) rs tl
  rel : ∀ m ∈ tl, RelV (tokV m.1.tok) m.2
theorem TokL.same {A : Ad} {G H : Hp} {D : Addr} {tl : TL} (k : TokL A G D tl) (e : Same G H) : TokL A H D tl := by
  obtain ⟨⟨rs, h1, h2⟩, r⟩ := k
  exact ⟨⟨rs, e D _ h1, h2.mono fun _ _ _ _ q => q.same e⟩, r⟩
/-- while they are lexed -/
structure TokInv (A : Ad) (H G : Hp) (D : Addr) (tl : TL) : Prop where
  tl : TokL A G D tl
  ext : Same H G
  fr : H D = none
theorem TokInv.same {A : Ad} {H G G' : Hp} {D : Addr} {tl : TL} (k : TokInv A H G D tl) (e : Same G G') : TokInv A H G' D tl := ⟨k.tl.same e, same_trans k.ext e, k.fr⟩
theorem TokInv.at_ {A : Ad} {H G : Hp} {D : Addr} {tl : TL} (k : TokInv A H G D tl) : ∃ acc, G D = some (.lst acc) ∧ acc.length = tl.length := by
  obtain ⟨rs, h1, h2⟩ := k.tl.ex
  exact ⟨_, h1, by rw [List.length_map, h2.len]⟩
/-- one token more -/
theorem TokInv.push {A : Ad} {H G : Hp} {D a dx : Addr} {tl : TL} {m : PTok × Value} (k : TokInv A H G D tl) (ha : G a = none) (hd : G dx = none) (ne : dx ≠ a) (r : RelV (tokV m.1.tok) m.2) : ∃ acc, (upd (upd G dx (TkD dx m.2 m.1.place)) a (TkA A.to dx a)) D = some (.lst acc) ∧ acc.length = tl.length ∧
    TokInv A H (upd (upd (upd G dx (TkD dx m.2 m.1.place)) a (TkA A.to dx a)) D (.lst (acc ++ [V.ref a]))) D (tl ++ [m]) := by
  obtain ⟨rs, h1, h2⟩ := k.tl.ex
  have nDa : D ≠ a := ne_of_none h1 ha
  have nDd : D ≠ dx := ne_of_none h1 hd
  refine ⟨rs.map V.ref, by rw [upd_ne nDa, upd_ne nDd]; exact h1, by rw [List.length_map, h2.len], ⟨⟨rs ++ [a], by rw [upd_same, List.map_append]; rfl, ?_⟩, fun x hx => ?_⟩, ?_, k.fr⟩
  · refine AllAt.snoc (h2.mono fun r x _ _ q => ?_) ?_
    · obtain ⟨e, n, q1, q2⟩ := q
      refine ⟨e, n, ?_, ?_⟩
      · rw [upd_ne (ne_of q1 h1 (by intro z; cases z)), upd_ne (ne_of_none q1 ha), upd_ne (ne_of_none q1 hd)]; exact q1
      · rw [upd_ne (ne_of q2 h1 (by intro z; cases z)), upd_ne (ne_of_none q2 ha), upd_ne (ne_of_none q2 hd)]; exact q2
    · refine ⟨dx, ne, ?_, ?_⟩
      · rw [upd_ne nDa.symm, upd_same]
      · rw [upd_ne nDd.symm, upd_ne ne, upd_same]
  · rcases List.mem_append.mp hx with z | z
    · exact k.tl.rel x z
    · rw [List.mem_singleton.mp z]; exact r
  · intro b u e
    have gb := k.ext b u e
    rw [upd_ne (ne_of_none e k.fr), upd_ne (ne_of_none gb ha), upd_ne (ne_of_none gb hd)]
    exact gb
section
variable {P : Program} {w : World} {K : PySem.W.Frag} {mg : Str → Option Value} {base : Heap} {A : Ad}
def spTokensR (A : Ad) : SpR := fun vs H z Q E => ∃ (a : Addr) (b : Bytes), vs = [.ref a] ∧ H a = some (.lst (b.map iB)) ∧
  (∀ ts, tokens b = .ok ts → ∀ H' D tl U (y : Shared), Same H H' → H D = none → TokL A H' D tl → tl.map (·.1) = ts → Sep U tl → U ≤ y.toks → Q (.ref D) H' y) ∧
  (∀ f, tokens b = .error f → Out E H A.fa [("place", .int f.place), ("code", .int f.code)])
abbrev N_tokens_of : List Str := ["script", "tokens", "at", "end"]
theorem sc_tokens_of : FnScope N_tokens_of ["script"] (defScope (top 56)) := ⟨rfl, rfl, rfl, by decide +kernel, rfl, by decide +kernel, by decide +kernel⟩
theorem k_tokens_of (T : Txt K mg A) : OkR P w K mg base 5 "tokens_of" (spTokensR A) := by
  refine okr_mk T.d_tokens_of sc_tokens_of (fun vs H z Q E ⟨_, _, e, _⟩ => by rw [e]; rfl) fun f cdv AA outer z G vs Q E hr tk po h => ⟨_, (pssr_cons (psr_up (ps_if (pt_cmpR op_gt (pe_len T.b_len (pv 0)) (pe_gv T.c_MOST_BYTES) (nomark _)) (pss_one (ps_raise rfl tk (pmk_ex (xk_Fault T) hr (pa_cons pe_int (pa_cons (pe_gv T.c_MOST_BYTES) pa_nil))))) pss_nil))
    (pssr_cons (psr_up (ps_set (i := 1) sc_tokens_of.nd rfl (Or.inl rfl) (pe_lst pa_nil)))
    (pssr_cons (psr_set (i := 2) sc_tokens_of.nd rfl rfl (pr_ku (k_past_blanks T) hr tk (par_cons (pr_up (pv 0)) (par_cons pr_int par_nil))))
    (pssr_cons (psr_while po (pt_cmpR op_lt (pv 2) (pe_len T.b_len (pv 0)) (nomark _)) (pssr_cons (psr_up (ps_set (i := 3) sc_tokens_of.nd rfl (Or.inl rfl) (pe_k (k_token_end T) hr tk (pa_cons (pv 0) (pa_cons (pv 2) pa_nil)))))
    (pssr_cons (psr_app (pv 1) (par_cons (pr_tok T hr (par_cons (pr_k (k_token_value T) hr tk (par_up (pa_cons (pv 0) (pa_cons (pv 2) (pa_cons (pv 3) pa_nil))))) (par_up (pa_cons (pv 2) pa_nil)))) par_nil))
    (pssr_one (psr_up (ps_set (i := 2) sc_tokens_of.nd rfl (Or.inl rfl) (pe_k (k_past_blanks T) hr tk (pa_cons (pv 0) (pa_cons (pv 3) pa_nil)))))))))
    (pssr_cons (psr_app (pv 1) (par_cons (pr_tok T hr (par_up (pa_cons (pe_gv T.c_END) (pa_cons (pe_len T.b_len (pv 0)) pa_nil)))) par_nil))
    (pssr_one (psr_up (ps_ret (pv 1))))))))), fun y le => ?_⟩
  obtain ⟨a, b, rfl, ha, q, o⟩ := h
  have bl : (b.map iB).length = b.length := List.length_map ..
  refine ⟨_, rfl, a, _, rfl, SqL.of ha, ?_⟩
  refine ⟨_, _, rfl, rfl, _, rfl, if_2 (fun k => ?_) fun k => ?_⟩
  · have k := of_decide_eq_true k
    rw [bl] at k
    exact raiseF T (o ⟨1, 4096⟩ (tokens_long (by omega)))
  · have k := of_decide_eq_false k
    rw [bl] at k
    have hz : b.length ≤ 4096 := by omega
    intro y1 l1
    refine ⟨Nat.zero_le _, fun D hD y2 l2 => ?_⟩
    have haD : (upd G D (.lst [])) a = some (.lst (b.map iB)) := same_new hD a _ ha
    refine ⟨_, rfl, fun u0 y3 l3 r0 u1 y4 r1 l4 => ⟨_, .cons r0 (.cons r1 .nil), a, b, 0, rfl, haD, Nat.zero_le _, fun u5 y5 l5 r5 => ⟨_, r5, fun y6 l6 => ?_⟩⟩⟩
    rw [List.drop_zero]
    refine ⟨fun m σ G' x => ∃ (p : Nat) (tl : TL) (e : Option V) (U : Nat), σ = [some (.ref a), some (.ref D), some (nV p), e] ∧ m = b.length - p ∧ TokInv A G G' D tl ∧ Sep U tl ∧ U ≤ x.toks ∧ 1 ≤ x.toks ∧ LexSt b p (tl.map (·.1)) ∧ (p < b.length → ∃ c m, LexAt b p (tl.map (·.1)) c m) ∧ tl.length ≤ p,
      ⟨_, skip false b, [], none, 0, (by rw [Nat.zero_add]; rfl), rfl, ⟨⟨⟨[], upd_same, .nil⟩, fun m hm => by cases hm⟩, same_new hD, hD⟩, .nil _, Nat.zero_le _, by omega, ?_, fun lt => ?_, Nat.zero_le _⟩, ?_⟩
    · have := lexSt_skip (lexSt_start b)
      rw [Nat.zero_add, List.drop_zero] at this
      exact this
    · have := lexAt_skip (lexSt_start b)
      rw [Nat.zero_add, List.drop_zero] at this
      exact this lt
    · rintro m σ G' x ⟨p, tl, e, U, rfl, rfl, ti, sep, hU, h1, st, at_, htl⟩
      have ha' := ti.ext a _ ha
      refine ⟨_, rfl, _, rfl, a, _, rfl, SqL.of ha', ?_⟩
      refine ⟨_, _, rfl, rfl, _, rfl, fun y7 l7 => if_2 (fun c => ?_) fun c => ?_⟩
      · have c := of_decide_eq_true c
        rw [bl] at c
        obtain ⟨ch, m, la⟩ := at_ (by omega)
        have bad : token (ch :: m) = none → Out E G' A.fa [("place", .int p), ("code", .int 2)] := fun z => (o ⟨2, p⟩ (lexAt_bad la z hz)).mono ti.ext
        refine ⟨fun σ' G2 x2 => ∃ (p' : Nat) (tl' : TL) (e' : Option V) (U' : Nat), σ' = [some (.ref a), some (.ref D), some (nV p'), e'] ∧ p < p' ∧ TokInv A G G2 D tl' ∧ Sep U' tl' ∧ U' ≤ x2.toks ∧ 1 ≤ x2.toks ∧ LexSt b p' (tl'.map (·.1)) ∧ (p' < b.length → ∃ c m, LexAt b p' (tl'.map (·.1)) c m) ∧ tl'.length ≤ p', ?_, ?_⟩
        · rintro σ' G2 x2 ⟨p', tl', e', U', rfl, lt, ti', sep', hU', h1', st', at', htl'⟩
          exact ⟨b.length - p', by omega, p', tl', e', U', rfl, rfl, ti', sep', hU', h1', st', at', htl'⟩
        · refine ⟨_, rfl, _, rfl, a, b, p, ch, m, rfl, ha', la.hd, fun kind y8 l8 => ?_, fun z => bad (tok_none z.2.1 z.2.2 z.1)⟩
          obtain ⟨acc0, hacc0, _⟩ := ti.at_
          refine ⟨_, rfl, ⟨D, acc0, rfl, hacc0⟩, fun y9 l9 => ?_⟩
          refine ⟨_, rfl, _, rfl, _, rfl, fun us yA lA hv => ⟨_, hv, a, b, p, ch, m, rfl, ha', la.hd, kind, fun x n hx hn u s H' es ru hw lB => ?_, bad⟩⟩
          refine ⟨_, rfl, fun us2 yC lC hv2 => ?_⟩
          obtain ⟨u2, rfl, ⟨tp, rfl⟩⟩ := hv2.one
          refine ⟨u, p, tp, rfl, fun ta dx yD hta hdx nd lD => ?_⟩
          have ti2 := ti.same es
          obtain ⟨acc, hacc, lacc, ti3⟩ := ti2.push (m := (⟨p, x⟩, u)) hta hdx nd ru
          refine ⟨D, acc, .ref ta, _, rfl, rfl, rfl, hacc, sz_lt (by rw [lacc]; have := st.le; omega), fun yE lE => ?_⟩
          subst hn
          have st2 := lexAt_some la hx
          have tp1 := token_pos hx
          have ml : (tl ++ [((⟨p, x⟩ : PTok), u)]).map (·.1) = tl.map (·.1) ++ [⟨p, x⟩] := by rw [List.map_append]; rfl
          refine ⟨_, rfl, _, rfl, a, b, p + tokLen ch m, rfl, ti3.ext a _ ha, st2.le, fun yF lF => ?_⟩
          refine ⟨_, _, some (nV (p + tokLen ch m)), yD.toks, rfl, ?_, ti3, sep.snoc (U' := yD.toks) (by omega) ?_, by omega, by omega, ?_, fun lt => ?_, ?_⟩
          · have : 1 ≤ tokLen ch m := tp1.1
            omega
          · intro t ht
            obtain ⟨y, rfl⟩ : ∃ y, x = .name y := by
              cases x with
              | name y => exact ⟨y, rfl⟩
              | num n => simp [nameTok] at ht
              | sign n => simp [nameTok] at ht
              | last => simp [nameTok] at ht
            obtain ⟨t', rfl⟩ := (show ∃ t', u = Value.str (toS y) t' from ru)
            have et : t' = t := by simpa [nameTok] using ht
            subst et
            obtain ⟨w1, w2⟩ := hw y t' rfl rfl
            have w2 : (t' : Nat) < s.toks := w2
            exact ⟨by omega, by omega, Nat.lt_of_lt_of_le w2 (by omega)⟩
          · rw [ml]; exact lexSt_skip st2
          · rw [ml]; exact lexAt_skip st2 lt
          · have : 1 ≤ tokLen ch m := tp1.1
            rw [List.length_append, List.length_singleton]; omega
      · have c := of_decide_eq_false c
        rw [bl] at c
        obtain ⟨acc0, hacc0, _⟩ := ti.at_
        refine ⟨_, rfl, ⟨D, acc0, rfl, hacc0⟩, fun y9 l9 => ?_⟩
        refine ⟨_, rfl, a, _, rfl, SqL.of ha', fun us yA lA hv => ?_⟩
        cases hv with
        | cons r1 hv =>
          obtain ⟨u2, rfl, ⟨tp, rfl⟩⟩ := Vals.one hv
          rename_i u
          refine ⟨u, _, tp, rfl, fun ta dx yD hta hdx nd lD => ?_⟩
          rw [bl]
          have r1' : RelV (tokV (⟨b.length, .last⟩ : PTok).tok) u := r1
          obtain ⟨acc, hacc, lacc, ti3⟩ := ti.push (m := ((⟨b.length, .last⟩ : PTok), u)) hta hdx nd r1'
          refine ⟨D, acc, .ref ta, _, rfl, rfl, rfl, hacc, sz_lt (by rw [lacc]; have := st.le; omega), fun yE lE => ?_⟩
          refine ⟨_, rfl, fun u9 yF lF r9 => ?_⟩
          cases (show u9 = Value.ref D from r9)
          refine q _ (lexSt_end st (by omega) hz) _ D _ yD.toks yF ti3.ext hD ti3.tl (by rw [List.map_append]; rfl) (sep.snoc (U' := yD.toks) (by omega) fun t ht => by simp [nameTok] at ht) (by omega)
end
end Lp
/-! Reading commands: addresses with their nots, deeds, commands. -/
namespace Lp
open VasedBase Vaseda
/-- what a token says, if it is no number -/
def tokB : Tok → Option Bytes
  | .name b => some b
  | .num _ => none
  | .sign _ => some [59]
  | .last => some []
theorem tokB_name {t : Tok} {w : Bytes} (k : tokOk t) (h1 : w ≠ []) (h2 : w ≠ [59]) : tokEq t (.name w) = decide (tokB t = some w) := by
  cases t with
  | name b =>
    show (b == w) = decide (some b = some w)
    rw [Bool.eq_iff_iff, beq_iff_eq, decide_eq_true_iff]
    exact ⟨fun e => by rw [e], fun e => Option.some.inj e⟩
  | num n => exact (decide_eq_false (by simp [tokB])).symm
  | sign c => exact (decide_eq_false (by simp [tokB]; exact fun e => h2 e.symm)).symm
  | last => exact (decide_eq_false (by simp [tokB]; exact fun e => h1 e)).symm
theorem nextW {s : String} {m : PTok} {r : Toks} (k : tokOk m.tok) (h : (word s ≠ [] ∧ word s ≠ [59]) := by decide) : nextWord s (m :: r) = decide (tokB m.tok = some (word s)) := tokB_name k h.1 h.2
theorem nextSign {m : PTok} {r : Toks} (k : tokOk m.tok) : next (.sign 59) (m :: r) = decide (tokB m.tok = some [59]) := by
  show tokEq m.tok (.sign 59) = _
  cases h : m.tok with
  | name b =>
    rw [h] at k
    have : b ≠ [59] := fun e => by
      have := k.2.1 59 (by rw [e]; exact List.mem_singleton.mpr rfl)
      exact absurd this (by decide)
    exact (decide_eq_false (by simpa [tokB] using this)).symm
  | num n => exact (decide_eq_false (by simp [tokB])).symm
  | sign c =>
    rw [h] at k
    cases (show c = 59 from k)
    rfl
  | last => exact (decide_eq_false (by simp [tokB])).symm
theorem nextLast {m : PTok} {r : Toks} (k : tokOk m.tok) : next .last (m :: r) = decide (tokB m.tok = some []) := by
  show tokEq m.tok .last = _
  cases h : m.tok with
  | name b =>
    rw [h] at k
    exact (decide_eq_false (by simpa [tokB] using k.1)).symm
  | num n => exact (decide_eq_false (by simp [tokB])).symm
  | sign c => exact (decide_eq_false (by simp [tokB])).symm
  | last => rfl
/-- a token that is not the end is followed by one -/
theorem more_toks {ts : Toks} {i : Nat} {m : PTok} (k : ToksOk ts) (h : ts[i]? = some m) (hl : m.tok ≠ .last) : i + 1 < ts.length := by
  obtain ⟨_, p, r, e, n⟩ := k
  rw [e] at h ⊢
  have lt := (List.getElem?_eq_some_iff.mp h).1
  rw [List.length_append, List.length_singleton] at lt ⊢
  rcases Nat.lt_or_ge i r.length with c | c
  · omega
  · have e2 : i = r.length := by omega
    subst e2
    rw [List.getElem?_append_right (Nat.le_refl _), Nat.sub_self] at h
    cases h
    exact absurd rfl hl
theorem tok_ok_at {ts : Toks} {i : Nat} {m : PTok} (k : ToksOk ts) (h : ts[i]? = some m) : tokOk m.tok := k.ok m (List.mem_of_getElem? h)
theorem drop_at' {ts : Toks} {i : Nat} {m : PTok} (h : ts[i]? = some m) : ts.drop i = m :: ts.drop (i + 1) := by
  obtain ⟨h1, h2⟩ := List.getElem?_eq_some_iff.mp h
  rw [← h2]; exact List.drop_eq_getElem_cons h1
theorem not_last {t : Tok} (h : tokB t ≠ some []) : t ≠ .last := fun e => h (by rw [e]; rfl)
theorem num_none {t : Tok} (h : tokB t = none) : ∃ n, t = .num n := by cases t <;> simp [tokB] at h; exact ⟨_, rfl⟩
theorem takeName_cons {m : PTok} {r : Toks} (k : tokOk m.tok) : takeLetters (m :: r) = match tokB m.tok with
    | some b => if (decide (1 ≤ b.length ∧ b.length ≤ 8) && !RESERVED.contains b && decide (b ≠ [59])) = true then .ok (b, r) else wrong (m :: r)
    | none => wrong (m :: r) := by
  obtain ⟨p, t⟩ := m
  cases t with
  | name b =>
    have l1 : 1 ≤ b.length := by
      have := k.1
      cases b with
      | nil => exact absurd rfl this
      | cons c l => rw [List.length_cons]; omega
    have l2 : b.length ≤ 8 := k.2.2
    have l3 : b ≠ [59] := fun e => absurd (k.2.1 59 (by rw [e]; exact List.mem_singleton.mpr rfl)) (by decide)
    unfold takeLetters takeName
    dsimp only [tokB]
    rw [decide_eq_true ⟨l1, l2⟩, decide_eq_true l3]
    cases RESERVED.contains b <;> rfl
  | num n => rfl
  | sign c => rfl
  | last => rfl
theorem takeNum_cons {lo hi : Nat} {m : PTok} {r : Toks} : takeNum lo hi (m :: r) = match m.tok with
    | .num n => if n < lo ∨ hi < n then .error ⟨7, m.place⟩ else .ok (n, r)
    | _ => .error ⟨3, m.place⟩ := by
  obtain ⟨p, t⟩ := m
  cases t <;> rfl
/-- an address that begins with no not -/
def takePlain (l : Toks) : Except Fault (Addr × Toks) :=
  if nextWord "all" l = true then .ok (.all, l.drop 1)
  else if nextWord "last" l = true then .ok (.last, l.drop 1)
  else if nextWord "has" l = true then (takeLetters (l.drop 1)).map fun x => (.has x.1, x.2)
  else if nextWord "is" l = true then (takeLetters (l.drop 1)).map fun x => (.is_ x.1, x.2)
  else if nextWord "line" l = true then (takeNum 1 99 (l.drop 1)).map fun x => (.line x.1, x.2)
  else if nextWord "from" l = true then (takeNum 1 99 (l.drop 1)).bind fun x => (takeWord "to" x.2).bind fun l => (takeNum x.1 99 l).map fun y => (.span x.1 y.1, y.2)
  else wrong l
theorem takeAddr_plain {f n : Nat} {m : PTok} {r : Toks} (k : tokOk m.tok) : takeAddr (f + 1) n (m :: r) = if tokB m.tok = some (word "not") then (if 3 ≤ n then .error ⟨4, m.place⟩ else (takeAddr f (n + 1) r).map fun x => (.not x.1, x.2)) else takePlain (m :: r) := by
  conv => lhs; unfold takeAddr
  unfold takePlain
  rw [nextW k, nextW k, nextW k, nextW k, nextW k, nextW k, nextW k]
  simp only [decide_eq_true_eq]
  have w1 : word "all" ≠ word "not" := by decide
  have w2 : word "line" ≠ word "not" := by decide
  have w3 : word "from" ≠ word "not" := by decide
  have w4 : word "last" ≠ word "not" := by decide
  have w5 : word "has" ≠ word "not" := by decide
  have w6 : word "is" ≠ word "not" := by decide
  by_cases h : tokB m.tok = some (word "not")
  · rw [if_pos h, h]
    rw [if_neg (by simpa using w1.symm), if_neg (by simpa using w2.symm), if_neg (by simpa using w3.symm), if_neg (by simpa using w4.symm), if_neg (by simpa using w5.symm), if_neg (by simpa using w6.symm), if_pos rfl]
    rfl
  · rw [if_neg h, if_neg h]
    by_cases h1 : tokB m.tok = some (word "all")
    · rw [if_pos h1, if_pos h1]
    rw [if_neg h1, if_neg h1]
    by_cases h2 : tokB m.tok = some (word "line")
    · rw [if_pos h2, h2]
      rw [if_neg (by decide), if_neg (by decide), if_neg (by decide), if_pos rfl]
      rfl
    rw [if_neg h2]
    by_cases h3 : tokB m.tok = some (word "from")
    · rw [if_pos h3, h3]
      rw [if_neg (by decide), if_neg (by decide), if_neg (by decide), if_neg (by decide), if_pos rfl]
      rfl
    rw [if_neg h3]
    by_cases h4 : tokB m.tok = some (word "last")
    · rw [if_pos h4, if_pos h4]
    rw [if_neg h4, if_neg h4]
    by_cases h5 : tokB m.tok = some (word "has")
    · rw [if_pos h5, if_pos h5]
    rw [if_neg h5, if_neg h5]
    by_cases h6 : tokB m.tok = some (word "is")
    · rw [if_pos h6, if_pos h6]
    rw [if_neg h6, if_neg h6, if_neg h2, if_neg h3]
def notN : Nat → Addr → Addr
  | 0, a => a
  | n + 1, a => .not (notN n a)
theorem notN_not : ∀ (n : Nat) (a : Addr), notN n (.not a) = notN (n + 1) a
  | 0, _ => rfl
  | n + 1, a => by
    show Addr.not (notN n (.not a)) = _
    rw [notN_not n a]; rfl
/-- what is read of an address, n nots being behind -/
structure AddrSt (F : Nat) (l0 : Toks) (f n : Nat) (l : Toks) : Prop where
  eq : takeAddr F 0 l0 = (takeAddr f n l).map fun x => (notN n x.1, x.2)
  lt : l.length < f
theorem addrSt_start {l0 : Toks} : AddrSt (l0.length + 1) l0 (l0.length + 1) 0 l0 := ⟨(map_id' _ _ fun _ => rfl).symm, Nat.lt_succ_self _⟩
theorem addrSt_not {F f n : Nat} {l0 r : Toks} {m : PTok} (a : AddrSt F l0 f n (m :: r)) (k : tokOk m.tok) (h : tokB m.tok = some (word "not")) (hn : n < 3) : AddrSt F l0 (f - 1) (n + 1) r := by
  obtain ⟨e, lt⟩ := a
  obtain ⟨f, rfl⟩ : ∃ g, f = g + 1 := ⟨f - 1, by rw [List.length_cons] at lt; omega⟩
  rw [takeAddr_plain k, if_pos h, if_neg (by omega), map_map'] at e
  refine ⟨?_, by rw [List.length_cons] at lt; omega⟩
  rw [e]
  congr 1
  funext x
  rw [notN_not]
theorem addrSt_many {F f n : Nat} {l0 r : Toks} {m : PTok} (a : AddrSt F l0 f n (m :: r)) (k : tokOk m.tok) (h : tokB m.tok = some (word "not")) (hn : 3 ≤ n) : takeAddr F 0 l0 = .error ⟨4, m.place⟩ := by
  obtain ⟨e, lt⟩ := a
  obtain ⟨f, rfl⟩ : ∃ g, f = g + 1 := ⟨f - 1, by rw [List.length_cons] at lt; omega⟩
  rw [takeAddr_plain k, if_pos h, if_pos hn] at e
  exact e
theorem addrSt_plain {F f n : Nat} {l0 r : Toks} {m : PTok} (a : AddrSt F l0 f n (m :: r)) (k : tokOk m.tok) (h : tokB m.tok ≠ some (word "not")) : takeAddr F 0 l0 = (takePlain (m :: r)).map fun x => (notN n x.1, x.2) := by
  obtain ⟨e, lt⟩ := a
  obtain ⟨f, rfl⟩ : ∃ g, f = g + 1 := ⟨f - 1, by rw [List.length_cons] at lt; omega⟩
  rw [takeAddr_plain k, if_neg h] at e
  exact e
end Lp
namespace Lp
open VasedBase Vaseda
def plainOf (b : Bytes) (l r : Toks) : Except Fault (Addr × Toks) :=
  if b = word "all" then .ok (.all, r)
  else if b = word "last" then .ok (.last, r)
  else if b = word "has" then (takeLetters r).map fun x => (.has x.1, x.2)
  else if b = word "is" then (takeLetters r).map fun x => (.is_ x.1, x.2)
  else if b = word "line" then (takeNum 1 99 r).map fun x => (.line x.1, x.2)
  else if b = word "from" then (takeNum 1 99 r).bind fun x => (takeWord "to" x.2).bind fun l => (takeNum x.1 99 l).map fun y => (.span x.1 y.1, y.2)
  else wrong l
theorem takePlain_word {m : PTok} {r : Toks} {b : Bytes} (k : tokOk m.tok) (e : tokB m.tok = some b) : takePlain (m :: r) = plainOf b (m :: r) r := by
  unfold takePlain plainOf
  rw [nextW k, nextW k, nextW k, nextW k, nextW k, nextW k]
  simp only [e, Option.some.injEq, decide_eq_true_eq]
  rfl
theorem takePlain_num {m : PTok} {r : Toks} (k : tokOk m.tok) (e : tokB m.tok = none) : takePlain (m :: r) = wrong (m :: r) := by
  unfold takePlain
  rw [nextW k, nextW k, nextW k, nextW k, nextW k, nextW k]
  simp only [e]
  rfl
def deedOf (b : Bytes) (l r : Toks) : Except Fault (Deed × Toks) :=
  if b = word "delete" then .ok (.delete, r)
  else if b = word "before" then (takeLetters r).map fun x => (.before x.1, x.2)
  else if b = word "after" then (takeLetters r).map fun x => (.after x.1, x.2)
  else if b = word "change" then (takeLetters r).map fun x => (.change x.1, x.2)
  else if b = word "swap" then takeTwo .swap r
  else if b = word "first" then takeTwo .first r
  else if b = word "keep" then .ok (.keep, r)
  else if b = word "bring" then .ok (.bring, r)
  else if b = word "trade" then .ok (.trade, r)
  else if b = word "skip" then (takeNum 1 9 r).map fun x => (.skip x.1, x.2)
  else if b = word "stop" then .ok (.halt_, r)
  else wrong l
theorem takeDeed_word {m : PTok} {r : Toks} {b : Bytes} (k : tokOk m.tok) (e : tokB m.tok = some b) : takeDeed (m :: r) = deedOf b (m :: r) r := by
  unfold takeDeed deedOf
  rw [nextW k, nextW k, nextW k, nextW k, nextW k, nextW k, nextW k, nextW k, nextW k, nextW k, nextW k]
  simp only [e, Option.some.injEq, decide_eq_true_eq]
  rfl
theorem takeDeed_num {m : PTok} {r : Toks} (k : tokOk m.tok) (e : tokB m.tok = none) : takeDeed (m :: r) = wrong (m :: r) := by
  unfold takeDeed
  rw [nextW k, nextW k, nextW k, nextW k, nextW k, nextW k, nextW k, nextW k, nextW k, nextW k, nextW k]
  simp only [e]
  rfl
theorem takeWord_cons {s : String} {m : PTok} {r : Toks} (k : tokOk m.tok) (h : (word s ≠ [] ∧ word s ≠ [59]) := by decide) : takeWord s (m :: r) = if tokB m.tok = some (word s) then .ok r else .error ⟨3, m.place⟩ := by
  unfold takeWord taken
  rw [show next (.name (word s)) (m :: r) = decide (tokB m.tok = some (word s)) from nextW k h]
  simp only [decide_eq_true_eq]
  rfl
theorem takeSign_cons {m : PTok} {r : Toks} (k : tokOk m.tok) : takeSign 59 (m :: r) = if tokB m.tok = some [59] then .ok r else .error ⟨3, m.place⟩ := by
  unfold takeSign taken
  rw [nextSign k]
  simp only [decide_eq_true_eq]
  rfl
theorem takeInstead_cons {m : PTok} {r : Toks} (k : tokOk m.tok) : takeInstead (m :: r) = if tokB m.tok = some (word "none") then .ok ([], r) else takeLetters (m :: r) := by
  unfold takeInstead
  rw [nextW k]
  simp only [decide_eq_true_eq]
  rfl
theorem map_ok {E A B : Type} {x : Except E A} {f : A → B} {y : B} (h : x.map f = .ok y) : ∃ a, x = .ok a ∧ y = f a := by
  cases x with
  | error e => cases h
  | ok a => cases h; exact ⟨a, rfl, rfl⟩
theorem map_err {E A B : Type} {x : Except E A} {f : A → B} {e : E} (h : x.map f = .error e) : x = .error e := by
  cases x with
  | error e' => cases h; rfl
  | ok a => cases h
end Lp
set_option maxRecDepth 100000
set_option maxHeartbeats 2000000
namespace Lp
open PySem PySem.Spec PyProof.Rows L2
open VasedBase (Bytes PTok Toks tokens word Fault RESERVED)
open Vasedc (tellable)
/-- all as it was, but at r -/
def But (r : Addr) (H H' : Hp) : Prop := ∀ b u, b ≠ r → H b = some u → H' b = some u
theorem But.refl (r : Addr) (H : Hp) : But r H H := fun _ _ _ h => h
theorem But.of {r : Addr} {H H' : Hp} (e : Same H H') : But r H H' := fun b u _ h => e b u h
theorem But.trans {r : Addr} {H H1 H2 : Hp} (a : But r H H1) (b : But r H1 H2) : But r H H2 := fun x u n h => b x u n (a x u n h)
theorem But.at_ {r : Addr} {H : Hp} {o : HO} : But r H (upd H r o) := fun b u n h => by rw [upd_ne n]; exact h
theorem But.same {r : Addr} {H H' : Hp} (k : But r H H') (n : H r = none) : Same H H' := fun b u h => k b u (ne_of_none h n) h
/-- a fault of the script -/
def OutR (A : Ad) (E : XK) (r : Addr) (H : Hp) (f : Fault) : Prop := ∀ H' d, But r H H' → H' d = some (.xd [("place", .int (f.place : Int)), ("code", .int (f.code : Int))]) → E (.ref A.fa) (some d) H'
theorem OutR.out {A : Ad} {E : XK} {r : Addr} {H : Hp} {f : Fault} (o : OutR A E r H f) : Out E H A.fa [("place", .int (f.place : Int)), ("code", .int (f.code : Int))] := fun H' d e => o H' d (.of e)
theorem OutR.mono {A : Ad} {E : XK} {r : Addr} {H H1 : Hp} {f : Fault} (o : OutR A E r H f) (k : But r H H1) : OutR A E r H1 f := fun H' d e => o H' d (k.trans e)
/-- the reader at r: it stands at the i-th token -/
structure RdAt (A : Ad) (H : Hp) (r : Addr) (i : Nat) (D : Addr) (tl : TL) : Prop where
  obj : ∃ dx, H r = some (.ins A.rd dx [("tokens", .ref D), ("taken", nV i)])
  tks : TokL A H D tl
  ok : ToksOk (tl.map (·.1))
theorem TokL.but {A : Ad} {G H : Hp} {r D dx : Addr} {fs : List (Str × V)} {tl : TL} {C : Addr} (k : TokL A G D tl) (h : G r = some (.ins C dx fs)) (e : But r G H) : TokL A H D tl := by
  obtain ⟨⟨rs, h1, h2⟩, q⟩ := k
  refine ⟨⟨rs, e D _ (ne_of h1 h (by intro z; cases z)) h1, h2.mono fun a m _ _ z => ?_⟩, q⟩
  obtain ⟨d, ne, q1, q2⟩ := z
  exact ⟨d, ne, e _ _ (ne_of q1 h (by intro z; cases z)) q1, e _ _ (ne_of q2 h (by intro z; cases z)) q2⟩
theorem RdAt.same {A : Ad} {H H' : Hp} {r D : Addr} {i : Nat} {tl : TL} (k : RdAt A H r i D tl) (e : Same H H') : RdAt A H' r i D tl := by
  obtain ⟨⟨dx, h⟩, h2, h3⟩ := k
  exact ⟨⟨dx, e _ _ h⟩, h2.same e, h3⟩
/-- the token that is to be taken -/
theorem RdAt.tok {A : Ad} {H : Hp} {r D : Addr} {i : Nat} {tl : TL} {m : PTok × Value} (k : RdAt A H r i D tl) (h : tl[i]? = some m) : tokOk m.1.tok ∧ (tl.map (·.1)).drop i = m.1 :: (tl.map (·.1)).drop (i + 1) ∧ RelV (tokV m.1.tok) m.2 ∧ (tokB m.1.tok ≠ some [] → i + 1 < tl.length) := by
  have e : (tl.map (·.1))[i]? = some m.1 := by rw [List.getElem?_map, h]; rfl
  refine ⟨tok_ok_at k.ok e, drop_at' e, k.tks.rel m (List.mem_of_getElem? h), fun n => ?_⟩
  have := more_toks k.ok e (not_last n)
  rw [List.length_map] at this
  exact this
/-- what a token says, beside words -/
theorem tokV_w (t : VasedBase.Tok) (w : Bytes) : decide (tokV t = sV w) = decide (tokB t = some w) := by
  cases t with
  | name b => exact decide_eq_decide.mpr ⟨fun e => by show some b = _; rw [sV_inj e], fun e => by have : b = w := Option.some.inj e; rw [this]; rfl⟩
  | num n => rw [decide_eq_false (show ¬ tokV (.num n) = sV w by simp [tokV]), decide_eq_false (by simp [tokB])]
  | sign c =>
    have e0 : (V.str ";" : V) = sV [59] := by decide +kernel
    exact decide_eq_decide.mpr ⟨fun e => by have e : (V.str ";" : V) = sV w := e; rw [e0] at e; show some [59] = _; rw [sV_inj e], fun e => by have : ([59] : Bytes) = w := Option.some.inj e; rw [← this]; exact e0⟩
  | last =>
    have e0 : (V.str "" : V) = sV [] := rfl
    exact decide_eq_decide.mpr ⟨fun e => by have e : (V.str "" : V) = sV w := e; rw [e0] at e; show some [] = _; rw [sV_inj e], fun e => by have : ([] : Bytes) = w := Option.some.inj e; rw [← this]; exact e0⟩
theorem scal_w (t : VasedBase.Tok) (w : Bytes) : scal (tokV t) (sV w) = true := by cases t <;> rfl
theorem tokV_str {t : VasedBase.Tok} {b : Bytes} (h : tokB t = some b) : tokV t = sV b := of_decide_eq_true ((tokV_w t b).trans (decide_eq_true h))
theorem tokV_num {t : VasedBase.Tok} (h : tokB t = none) : ∃ n, t = .num n ∧ tokV t = nV n := by
  obtain ⟨n, rfl⟩ := num_none h
  exact ⟨n, rfl, rfl⟩
def isIn (t : VasedBase.Tok) (ls : List Bytes) : Bool := match tokB t with
  | some b => ls.contains b
  | none => false
theorem inV_tok (t : VasedBase.Tok) (ls : List Bytes) : inV (tokV t) (ls.map sV) = isIn t ls := by
  unfold isIn
  cases h : tokB t with
  | some b => rw [tokV_str h, inV_s]
  | none =>
    obtain ⟨n, rfl, e⟩ := tokV_num h
    rw [e]
    unfold inV
    rw [List.any_map]
    exact List.any_eq_false.mpr fun x _ => by show ¬ eqV (sV x) (nV n) = true; exact Bool.false_ne_true
theorem flat_tok (t : VasedBase.Tok) : flatV (tokV t) = true := by cases t <;> rfl
section
variable {P : Program} {w : World} {K : PySem.W.Frag} {mg : Str → Option Value} {base : Heap} {A : Ad}
theorem FnR.ok {k : Nat} {f : Addr} {fd : FuncData} {ps : List Str} {sp : SpR} (F : FnR P w K mg base k f fd ps sp) : FnOk P w K mg base (L2.CX P w) k f fd ps (fun vs H Q E => vs.length = ps.length ∧ ∀ z, sp vs H z (fun u G _ => ∃ v, RelV v u ∧ Q v G) E) :=
  ⟨fun vs H Q E h => h.1, fun AA outer z H args us vs Q E hr e0 hb r h => codeAny_mono (F.run AA outer z H args us vs _ E hr e0 hb r (h.2 z)) fun r y hq => by
    cases r with
    | error e => exact hq
    | ok fl =>
      cases fl with
      | ret u => obtain ⟨G, os, bare, un, hok, v, rv, q⟩ := hq; exact ⟨v, G, os, bare, un, hok, rv, q⟩
      | next => exact hq
      | brk => exact hq
      | cont => exact hq⟩
def spFollowing (A : Ad) : Sp := fun vs H Q _ => ∃ (r D : Addr) (i : Nat) (tl : TL) (m : PTok × Value), vs = [.ref r] ∧ RdAt A H r i D tl ∧ tl[i]? = some m ∧ ∀ a, TokAt A.to H a m.2 m.1.place → Q (.ref a) H
abbrev N_Reader_following : List Str := ["self"]
theorem sc_Reader_following : FnScope N_Reader_following ["self"] (defScope (inClass (top 74) 1)) := ⟨rfl, rfl, rfl, by decide +kernel, rfl, by decide +kernel, by decide +kernel⟩
theorem mo_following (T : Txt K mg A) : MOk P w K mg base 1 A.rd "following" (spFollowing A) := by
  obtain ⟨f, fd, F, M, b⟩ := T.m_following.ex
  refine ⟨f, fd, _, fn_mk F sc_Reader_following (fun vs H Q E ⟨_, _, _, _, _, e, _⟩ => by rw [e]; rfl) fun cdv AA outer s H vs Q E hr tk po h => ⟨_, (pss_one (ps_ret (pe_ix ix_list (pe_fld (pv 0) rfl) (pe_fld (pv 0) rfl) (fun _ _ => rfl)))), ?_⟩, M, b⟩
  obtain ⟨r, D, i, tl, m, rfl, ⟨⟨dx, ho⟩, ⟨⟨rs, h1, h2⟩, _⟩, _⟩, hm, q⟩ := h
  obtain ⟨a, ha, k⟩ := h2.get' hm
  have gx : (rs.map V.ref)[i]? = some (.ref a) := by rw [List.getElem?_map, ha]; rfl
  refine ⟨_, rfl, r, _, dx, _, _, rfl, ho, T.q_Reader.cl, T.q_Reader.no _ (by decide), rfl, ?_⟩
  refine ⟨_, rfl, r, _, dx, _, _, rfl, ho, T.q_Reader.cl, T.q_Reader.no _ (by decide), rfl, ?_⟩
  exact ⟨D, _, _, _, rfl, rfl, SqL.of h1, at_n gx rfl, q a k⟩
def spTakeR (A : Ad) : SpR := fun vs H z Q _ => ∃ (r D : Addr) (i : Nat) (tl : TL) (m : PTok × Value), vs = [.ref r] ∧ RdAt A H r i D tl ∧ tl[i]? = some m ∧ ∀ H' (y : Shared), z.toks ≤ y.toks → RdAt A H' r (i + 1) D tl → But r H H' → Q m.2 H' y
abbrev N_Reader_take : List Str := ["self", "token"]
theorem sc_Reader_take : FnScope N_Reader_take ["self"] (defScope (inClass (top 74) 2)) := ⟨rfl, rfl, rfl, by decide +kernel, rfl, by decide +kernel, by decide +kernel⟩
theorem mr_take (T : Txt K mg A) : MOkR P w K mg base 2 A.rd "take" (spTakeR A) := by
  obtain ⟨f, fd, F, M, b⟩ := T.m_take.ex
  refine ⟨f, fd, _, fnr_mk F sc_Reader_take (fun vs H z Q E ⟨_, _, _, _, _, e, _⟩ => by rw [e]; rfl) fun cdv AA outer z H vs Q E hr tk po h => ⟨_, (pssr_cons (psr_up (ps_set (i := 1) sc_Reader_take.nd rfl (Or.inl rfl) (pe_m0 (mo_following T) T.q_Reader.cl hr tk (pv 0))))
    (pssr_cons (psr_up (ps_fldaug (pv 0) pe_int in_add))
    (pssr_one (psr_ret (pr_val (pv 1)))))), fun y le => ?_⟩, M, b⟩
  obtain ⟨r, D, i, tl, m, rfl, rd, hm, q⟩ := h
  obtain ⟨dx, ho⟩ := rd.obj
  obtain ⟨_, _, rel, _⟩ := rd.tok hm
  refine ⟨_, rfl, r, dx, _, rfl, ho, rfl, r, D, i, tl, m, rfl, rd, hm, fun a ha y1 l1 => ?_⟩
  refine ⟨_, rfl, r, _, dx, _, _, rfl, ho, T.q_Reader.cl, T.q_Reader.no _ (by decide), rfl, ?_⟩
  refine ⟨_, _, rfl, rfl, dx, _, ho, by show 2 < 1000; decide, fun y2 l2 => ?_⟩
  have e : (putF "taken" (.int ((i : Int) + 1)) [("tokens", .ref D), ("taken", nV i)]) = ([("tokens", .ref D), ("taken", nV (i + 1))] : List (Str × V)) := rfl
  rw [e]
  have bt : But r H (upd H r (.ins A.rd dx [("tokens", .ref D), ("taken", nV (i + 1))])) := .at_
  have ha2 : TokAt A.to (upd H r (.ins A.rd dx [("tokens", .ref D), ("taken", nV (i + 1))])) a m.2 m.1.place := by
    obtain ⟨d, ne, q1, q2⟩ := ha
    exact ⟨d, ne, bt _ _ (ne_of q1 ho (by intro z; cases z)) q1, bt _ _ (ne_of q2 ho (by intro z; cases z)) q2⟩
  refine ⟨_, rfl, a, A.to, m.2, _, rfl, ha2, T.q_Token.cl, T.q_Token.no _ (by decide), ⟨_, rel⟩, fun y3 l3 => ?_⟩
  exact q _ y3 (by omega) ⟨⟨dx, upd_same⟩, rd.tks.but ho bt, rd.ok⟩ bt
/-- .. its value alone -/
def spTake (A : Ad) : Sp := fun vs H Q _ => ∃ (r D : Addr) (i : Nat) (tl : TL) (m : PTok × Value), vs = [.ref r] ∧ RdAt A H r i D tl ∧ tl[i]? = some m ∧ ∀ H', RdAt A H' r (i + 1) D tl → But r H H' → Q (tokV m.1.tok) H'
theorem mo_take (T : Txt K mg A) : MOk P w K mg base 2 A.rd "take" (spTake A) := by
  obtain ⟨f, fd, ps, F, M, b⟩ := (mr_take (P := P) (w := w) (base := base) T).ex
  refine ⟨f, fd, ps, F.ok.imp fun vs H Q E ⟨r, D, i, tl, m, e, rd, hm, q⟩ => ?_, M, b⟩
  have k : ∀ z, spTakeR A vs H z (fun u G _ => ∃ v, RelV v u ∧ Q v G) E := fun z => ⟨r, D, i, tl, m, e, rd, hm, fun H' y _ rd' bt => ⟨_, (rd.tok hm).2.2.1, q H' rd' bt⟩⟩
  exact ⟨F.len vs H ⟨base, #[], {}, 0, {}⟩ _ E (k _), k⟩
end
end Lp
set_option maxRecDepth 100000
set_option maxHeartbeats 2000000
namespace Lp
open PySem PySem.Spec PyProof.Rows L2
open VasedBase (Bytes PTok Toks tokens word Fault RESERVED)
open Vasedc (tellable)
def goodB (b : Bytes) : Bool := tellable b && decide (b ≠ [59])
theorem tokB_len {t : VasedBase.Tok} {b : Bytes} (k : tokOk t) (h : tokB t = some b) : b.length ≤ 8 := by
  cases t with
  | name c => cases h; exact k.2.2
  | num n => cases h
  | sign c => cases h; decide
  | last => cases h; decide
theorem isi_tok {K : PySem.W.Frag} {H : Hp} (t : VasedBase.Tok) : ∃ ty, TyX K H (tokV t) ty ∧ PySem.W.kitOne K ty (.type "int") = some (decide (tokB t = none)) := by
  cases t with
  | name b => exact ⟨_, .base (.str _), rfl⟩
  | num n => exact ⟨_, .base (.int _), rfl⟩
  | sign c => exact ⟨_, .base (.str _), rfl⟩
  | last => exact ⟨_, .base (.str _), rfl⟩
section
variable {P : Program} {w : World} {K : PySem.W.Frag} {mg : Str → Option Value} {base : Heap} {A : Ad}
def spTakeJust (A : Ad) : Sp := fun vs H Q E => ∃ (r D : Addr) (i : Nat) (tl : TL) (m : PTok × Value) (x : Bytes), vs = [.ref r, sV x] ∧ RdAt A H r i D tl ∧ tl[i]? = some m ∧ (tokB m.1.tok = some x → ∀ H' v, RdAt A H' r (i + 1) D tl → But r H H' → Q v H') ∧ (tokB m.1.tok ≠ some x → OutR A E r H ⟨3, m.1.place⟩)
abbrev N_Reader_take_just : List Str := ["self", "value"]
theorem sc_Reader_take_just : FnScope N_Reader_take_just ["self", "value"] (defScope (inClass (top 74) 3)) := ⟨rfl, rfl, rfl, by decide +kernel, rfl, by decide +kernel, by decide +kernel⟩
theorem mo_take_just (T : Txt K mg A) : MOk P w K mg base 3 A.rd "take_just" (spTakeJust A) := by
  obtain ⟨f, fd, F, M, b⟩ := T.m_take_just.ex
  refine ⟨f, fd, _, fn_mk F sc_Reader_take_just (fun vs H Q E ⟨_, _, _, _, _, _, e, _⟩ => by rw [e]; rfl) fun cdv AA outer s H vs Q E hr tk po h => ⟨_, (pss_cons (ps_if (pt_cmpR op_ne (pe_val (pe_m0 (mo_following T) T.q_Reader.cl hr tk (pv 0))) (pv 1) (nomark _)) (pss_one (ps_raise rfl tk (pmk_ex (xk_Fault T) hr (pa_cons pe_int (pa_cons (pe_plc (pe_m0 (mo_following T) T.q_Reader.cl hr tk (pv 0))) pa_nil))))) pss_nil)
    (pss_one (ps_ret (pe_m0 (mo_take T) T.q_Reader.cl hr tk (pv 0))))), ?_⟩, M, b⟩
  obtain ⟨r, D, i, tl, m, x, rfl, rd, hm, q, o⟩ := h
  obtain ⟨dx, ho⟩ := rd.obj
  obtain ⟨_, _, rel, _⟩ := rd.tok hm
  refine ⟨_, rfl, r, dx, _, rfl, ho, rfl, r, D, i, tl, m, rfl, rd, hm, fun a ha => ?_⟩
  refine ⟨a, A.to, _, _, tokV m.1.tok, rfl, ha, T.q_Token.cl, T.q_Token.no _ (by decide), rel, ?_⟩
  refine ⟨_, rfl, scal_w _ _, ?_⟩
  rw [tokV_w]
  refine ⟨_, rfl, if_2 (fun k => ?_) fun k => ?_⟩
  · have k : tokB m.1.tok ≠ some x := by simpa using k
    refine ⟨_, rfl, r, dx, _, rfl, ho, rfl, r, D, i, tl, m, rfl, rd, hm, fun a2 ha2 => ?_⟩
    exact ⟨a2, A.to, _, _, rfl, ha2, T.q_Token.cl, T.q_Token.no _ (by decide), raiseF T (o k).out⟩
  · have k : tokB m.1.tok = some x := by simpa using k
    exact ⟨_, rfl, r, dx, _, rfl, ho, rfl, r, D, i, tl, m, rfl, rd, hm, fun H' rd' bt => q k H' _ rd' bt⟩
def spTakeNumber (A : Ad) : Sp := fun vs H Q E => ∃ (r D : Addr) (i lo hi : Nat) (tl : TL) (m : PTok × Value), vs = [.ref r, nV lo, nV hi] ∧ RdAt A H r i D tl ∧ tl[i]? = some m ∧ (∀ n, m.1.tok = .num n → lo ≤ n → n ≤ hi → ∀ H', RdAt A H' r (i + 1) D tl → But r H H' → Q (nV n) H') ∧
  (∀ n, m.1.tok = .num n → (n < lo ∨ hi < n) → OutR A E r H ⟨7, m.1.place⟩) ∧ (tokB m.1.tok ≠ none → OutR A E r H ⟨3, m.1.place⟩)
abbrev N_Reader_take_number : List Str := ["self", "least", "greatest", "token"]
theorem sc_Reader_take_number : FnScope N_Reader_take_number ["self", "least", "greatest"] (defScope (inClass (top 74) 4)) := ⟨rfl, rfl, rfl, by decide +kernel, rfl, by decide +kernel, by decide +kernel⟩
theorem mo_take_number (T : Txt K mg A) : MOk P w K mg base 3 A.rd "take_number" (spTakeNumber A) := by
  obtain ⟨f, fd, F, M, b⟩ := T.m_take_number.ex
  refine ⟨f, fd, _, fn_mk F sc_Reader_take_number (fun vs H Q E ⟨_, _, _, _, _, _, _, e, _⟩ => by rw [e]; rfl) fun cdv AA outer s H vs Q E hr tk po h => ⟨_, (pss_cons (ps_set (i := 3) sc_Reader_take_number.nd rfl (Or.inl rfl) (pe_m0 (mo_following T) T.q_Reader.cl hr tk (pv 0)))
    (pss_cons (ps_if (pt_not (pt_val (pe_callB call_isi rfl T.b_isinstance (by decide +kernel) (pa_cons (pe_val (pv 3)) (pa_cons (pe_bltn (v := .ty "int") rfl T.b_int (by decide +kernel) rfl) pa_nil))))) (pss_one (ps_raise rfl tk (pmk_ex (xk_Fault T) hr (pa_cons pe_int (pa_cons (pe_plc (pv 3)) pa_nil))))) pss_nil)
    (pss_cons (ps_if (PW.pt (pw_or (pt_cmpR op_lt (pe_val (pv 3)) (pv 1) (nomark _)) (pw_or1 (pt_cmpR op_gt (pe_val (pv 3)) (pv 2) (nomark _))))) (pss_one (ps_raise rfl tk (pmk_ex (xk_Fault T) hr (pa_cons pe_int (pa_cons (pe_plc (pv 3)) pa_nil))))) pss_nil)
    (pss_one (ps_ret (pe_m0 (mo_take T) T.q_Reader.cl hr tk (pv 0))))))), ?_⟩, M, b⟩
  obtain ⟨r, D, i, lo, hi, tl, m, rfl, rd, hm, q, o7, o3⟩ := h
  obtain ⟨dx, ho⟩ := rd.obj
  obtain ⟨_, _, rel, _⟩ := rd.tok hm
  obtain ⟨ty, ht, kt⟩ := isi_tok (K := K) (H := H) m.1.tok
  refine ⟨_, rfl, r, dx, _, rfl, ho, rfl, r, D, i, tl, m, rfl, rd, hm, fun a ha => ?_⟩
  refine ⟨_, rfl, a, A.to, _, _, tokV m.1.tok, rfl, ha, T.q_Token.cl, T.q_Token.no _ (by decide), rel, ?_⟩
  refine ⟨_, _, ty, _, _, rfl, .ty "int", ht, kt, _, rfl, if_2 (fun k => ?_) fun k => ?_⟩
  · have k : tokB m.1.tok ≠ none := by simpa using k
    exact ⟨_, rfl, a, A.to, _, _, rfl, ha, T.q_Token.cl, T.q_Token.no _ (by decide), raiseF T (o3 k).out⟩
  · have k : tokB m.1.tok = none := by simpa using k
    obtain ⟨n, en, ev⟩ := tokV_num k
    have rel' : RelV (nV n) m.2 := ev ▸ rel
    refine ⟨_, rfl, a, A.to, _, _, nV n, rfl, ha, T.q_Token.cl, T.q_Token.no _ (by decide), rel', ?_⟩
    refine ⟨_, rfl, _, _, rfl, rfl, _, rfl, if_or (fun z => ⟨_, rfl, a, A.to, _, _, nV n, rfl, ha, T.q_Token.cl, T.q_Token.no _ (by decide), rel', _, rfl, _, _, rfl, rfl, _, rfl, z⟩) (fun c => ?_) fun c1 c2 => ?_⟩
    · refine ⟨_, rfl, a, A.to, _, _, rfl, ha, T.q_Token.cl, T.q_Token.no _ (by decide), raiseF T (o7 n en ?_).out⟩
      rcases c with c | c
      · have := of_decide_eq_true c; exact .inl (by omega)
      · have := of_decide_eq_true c; exact .inr (by omega)
    · have c1 := of_decide_eq_false c1
      have c2 := of_decide_eq_false c2
      refine ⟨_, rfl, r, dx, _, rfl, ho, rfl, r, D, i, tl, m, rfl, rd, hm, fun H' rd' bt => ?_⟩
      rw [ev]
      exact q n en (by omega) (by omega) H' rd' bt
def spTakeLettersR (A : Ad) : SpR := fun vs H z Q E => ∃ (r D : Addr) (i : Nat) (tl : TL) (m : PTok × Value), vs = [.ref r] ∧ RdAt A H r i D tl ∧ tl[i]? = some m ∧ (∀ x, tokB m.1.tok = some x → goodB x = true → ∀ H' (y : Shared), z.toks ≤ y.toks → RdAt A H' r (i + 1) D tl → But r H H' → Q m.2 H' y) ∧
  ((∀ x, tokB m.1.tok = some x → goodB x = false) → OutR A E r H ⟨3, m.1.place⟩)
abbrev N_Reader_take_letters : List Str := ["self", "token"]
theorem sc_Reader_take_letters : FnScope N_Reader_take_letters ["self"] (defScope (inClass (top 74) 5)) := ⟨rfl, rfl, rfl, by decide +kernel, rfl, by decide +kernel, by decide +kernel⟩
theorem mr_take_letters (T : Txt K mg A) : MOkR P w K mg base 3 A.rd "take_letters" (spTakeLettersR A) := by
  obtain ⟨f, fd, F, M, b⟩ := T.m_take_letters.ex
  refine ⟨f, fd, _, fnr_mk F sc_Reader_take_letters (fun vs H z Q E ⟨_, _, _, _, _, e, _⟩ => by rw [e]; rfl) fun cdv AA outer z H vs Q E hr tk po h => ⟨_, (pssr_cons (psr_up (ps_set (i := 1) sc_Reader_take_letters.nd rfl (Or.inl rfl) (pe_m0 (mo_following T) T.q_Reader.cl hr tk (pv 0))))
    (pssr_cons (psr_up (ps_if (PW.pt (pw_or (pt_val (pe_callB call_isi rfl T.b_isinstance (by decide +kernel) (pa_cons (pe_val (pv 1)) (pa_cons (pe_bltn (v := .ty "int") rfl T.b_int (by decide +kernel) rfl) pa_nil)))) (pw_or (pt_cmpR op_eq (pe_val (pv 1)) (pe_gv T.c_SIGN) (nomark _)) (pw_or1 (pt_not (pt_val (pe_k (k_is_letters T) hr tk (pa_cons (pe_val (pv 1)) pa_nil)))))))) (pss_one (ps_raise rfl tk (pmk_ex (xk_Fault T) hr (pa_cons pe_int (pa_cons (pe_plc (pv 1)) pa_nil))))) pss_nil))
    (pssr_one (psr_ret (pr_m0 (mr_take T) T.q_Reader.cl hr tk (pv 0)))))), fun y le => ?_⟩, M, b⟩
  obtain ⟨r, D, i, tl, m, rfl, rd, hm, q, o⟩ := h
  obtain ⟨dx, ho⟩ := rd.obj
  obtain ⟨tok, _, rel, _⟩ := rd.tok hm
  obtain ⟨ty, ht, kt⟩ := isi_tok (K := K) (H := H) m.1.tok
  refine ⟨_, rfl, r, dx, _, rfl, ho, rfl, r, D, i, tl, m, rfl, rd, hm, fun a ha y1 l1 => ?_⟩
  have out : ∀ {G : Prop}, ((∀ x, tokB m.1.tok = some x → goodB x = false) → G) → (∀ x, tokB m.1.tok = some x → goodB x = false) → G := fun f => f
  refine ⟨_, rfl, a, A.to, _, _, tokV m.1.tok, rfl, ha, T.q_Token.cl, T.q_Token.no _ (by decide), rel, ?_⟩
  refine ⟨_, _, ty, _, _, rfl, .ty "int", ht, kt, _, rfl, ?_⟩
  refine with_rest (A := ∀ x, tokB m.1.tok = some x → goodB x = false) (O := ?O1) (fun bad => if_2 (fun k => ?_) fun k => ?_) fun k => ?_
  rotate_left
  · have k : tokB m.1.tok = none := by simpa using k
    exact bad fun x e => by rw [k] at e; cases e
  · have k : tokB m.1.tok ≠ none := by simpa using k
    obtain ⟨x, ex⟩ := Option.ne_none_iff_exists'.mp k
    refine ⟨_, rfl, a, A.to, _, _, tokV m.1.tok, rfl, ha, T.q_Token.cl, T.q_Token.no _ (by decide), rel, ?_⟩
    refine ⟨?_, ?_⟩
    · exact (show (V.str ";" : V) = sV [59] by decide +kernel) ▸ scal_w _ _
    rw [show decide (tokV m.1.tok = V.str (Str.ofString ";")) = decide (tokB m.1.tok = some [59]) from (show (V.str (Str.ofString ";") : V) = sV [59] by decide +kernel) ▸ tokV_w _ _]
    refine ⟨_, rfl, if_2 (fun k2 => ?_) fun k2 => ?_⟩
    · have k2 : tokB m.1.tok = some [59] := by simpa using k2
      refine bad fun x' e' => ?_
      rw [k2] at e'
      cases e'
      decide
    · have k2 : tokB m.1.tok ≠ some [59] := by simpa using k2
      have ev := tokV_str ex
      refine ⟨_, rfl, a, A.to, _, _, sV x, rfl, ha, T.q_Token.cl, T.q_Token.no _ (by decide), ev ▸ rel, ?_⟩
      refine ⟨x, rfl, Nat.le_trans (tokB_len tok ex) (by decide), ?_⟩
      have n59 : x ≠ [59] := fun e => k2 (by rw [ex, e])
      have gx : goodB x = tellable x := by unfold goodB; rw [decide_eq_true n59, Bool.and_true]
      refine ⟨_, rfl, if_2 (fun k3 => ?_) fun k3 => ?_⟩
      · refine bad fun x' e' => ?_
        rw [ex] at e'
        cases e'
        rw [gx]; simpa using k3
      · have k3 : tellable x = true := by simpa using k3
        intro y2 l2
        exact ⟨_, rfl, r, dx, _, rfl, ho, rfl, fun y3 l3 => ⟨r, D, i, tl, m, rfl, rd, hm, fun H' y4 l4 rd' bt l5 => q x ex (gx.trans k3) H' y4 (by omega) rd' bt⟩⟩
  · exact ⟨_, rfl, a, A.to, _, _, rfl, ha, T.q_Token.cl, T.q_Token.no _ (by decide), raiseF T (o k).out⟩
def spTakeLetters (A : Ad) : Sp := fun vs H Q E => ∃ (r D : Addr) (i : Nat) (tl : TL) (m : PTok × Value), vs = [.ref r] ∧ RdAt A H r i D tl ∧ tl[i]? = some m ∧ (∀ x, tokB m.1.tok = some x → goodB x = true → ∀ H', RdAt A H' r (i + 1) D tl → But r H H' → Q (sV x) H') ∧
  ((∀ x, tokB m.1.tok = some x → goodB x = false) → OutR A E r H ⟨3, m.1.place⟩)
theorem mo_take_letters (T : Txt K mg A) : MOk P w K mg base 3 A.rd "take_letters" (spTakeLetters A) := by
  obtain ⟨f, fd, ps, F, M, b⟩ := (mr_take_letters (P := P) (w := w) (base := base) T).ex
  refine ⟨f, fd, ps, F.ok.imp fun vs H Q E ⟨r, D, i, tl, m, e, rd, hm, q, o⟩ => ?_, M, b⟩
  have k : ∀ z, spTakeLettersR A vs H z (fun u G _ => ∃ v, RelV v u ∧ Q v G) E := fun z => ⟨r, D, i, tl, m, e, rd, hm, fun x ex gx H' y _ rd' bt => ⟨_, tokV_str ex ▸ (rd.tok hm).2.2.1, q x ex gx H' rd' bt⟩, o⟩
  exact ⟨F.len vs H ⟨base, #[], {}, 0, {}⟩ _ E (k _), k⟩
end
end Lp
set_option maxRecDepth 100000
set_option maxHeartbeats 2000000
namespace Lp
open PySem PySem.Spec PyProof.Rows L2
open VasedBase (Bytes PTok Toks tokens word Fault RESERVED)
open Vasedc (tellable)
open Vaseda (takeLetters takeNum)
theorem letters_ok {m : PTok} {r : Toks} {x : Bytes} (k : tokOk m.tok) (e : tokB m.tok = some x) (g : goodB x = true) : takeLetters (m :: r) = .ok (x, r) := by
  rw [takeName_cons k, e]
  exact if_pos g
theorem letters_bad {m : PTok} {r : Toks} (k : tokOk m.tok) (g : ∀ x, tokB m.tok = some x → goodB x = false) : takeLetters (m :: r) = .error ⟨3, m.place⟩ := by
  rw [takeName_cons k]
  cases e : tokB m.tok with
  | none => rfl
  | some x => exact if_neg fun z => Bool.false_ne_true ((g x e).symm.trans z)
theorem num_ok {m : PTok} {r : Toks} {lo hi n : Nat} (e : m.tok = .num n) (h1 : lo ≤ n) (h2 : n ≤ hi) : takeNum lo hi (m :: r) = .ok (n, r) := by
  rw [takeNum_cons, e]
  exact if_neg (by omega)
theorem num_7 {m : PTok} {r : Toks} {lo hi n : Nat} (e : m.tok = .num n) (h : n < lo ∨ hi < n) : takeNum lo hi (m :: r) = .error ⟨7, m.place⟩ := by
  rw [takeNum_cons, e]
  exact if_pos h
theorem num_3 {m : PTok} {r : Toks} {lo hi : Nat} (e : tokB m.tok ≠ none) : takeNum lo hi (m :: r) = .error ⟨3, m.place⟩ := by
  rw [takeNum_cons]
  cases h : m.tok with
  | num n => rw [h] at e; exact absurd rfl e
  | _ => rfl
theorem isIn_true {t : VasedBase.Tok} {ls : List Bytes} (h : isIn t ls = true) : ∃ b, tokB t = some b ∧ b ∈ ls := by
  unfold isIn at h
  cases e : tokB t with
  | none => rw [e] at h; cases h
  | some b => rw [e] at h; exact ⟨b, rfl, by simpa using h⟩
theorem isIn_false {t : VasedBase.Tok} {ls : List Bytes} (h : isIn t ls = false) {b : Bytes} (e : tokB t = some b) : b ∉ ls := by
  unfold isIn at h
  rw [e] at h
  simpa using h
/-- an address as the program holds it -/
def AddrAt (H : Hp) : Vaseda.Addr → Addr → Prop
  | .all, v => H v = some (.tup [.str "all"])
  | .line n, v => H v = some (.tup [.str "line", nV n])
  | .span a b, v => H v = some (.tup [.str "from", nV a, nV b])
  | .last, v => H v = some (.tup [.str "last"])
  | .has x, v => H v = some (.tup [.str "has", sV x])
  | .is_ x, v => H v = some (.tup [.str "is", sV x])
  | .not a, v => ∃ c, H v = some (.tup [.str "not", .ref c]) ∧ AddrAt H a c
theorem AddrAt.keep {H H' : Hp} (k : KeepT H H') : ∀ {a : Vaseda.Addr} {v : Addr}, AddrAt H a v → AddrAt H' a v
  | .all, _, h => k _ _ h
  | .line _, _, h => k _ _ h
  | .span _ _, _, h => k _ _ h
  | .last, _, h => k _ _ h
  | .has _, _, h => k _ _ h
  | .is_ _, _, h => k _ _ h
  | .not _, _, ⟨c, h1, h2⟩ => ⟨c, k _ _ h1, AddrAt.keep k h2⟩
theorem RdAt.next {A : Ad} {H : Hp} {r D : Addr} {i : Nat} {tl : TL} {m : PTok × Value} (k : RdAt A H r i D tl) (h : tl[i]? = some m) (n : tokB m.1.tok ≠ some []) : ∃ m2, tl[i + 1]? = some m2 := get_of_lt ((k.tok h).2.2.2 n)
section
variable {P : Program} {w : World} {K : PySem.W.Frag} {mg : Str → Option Value} {base : Heap} {A : Ad}
def spReadPlain (A : Ad) : Sp := fun vs H Q E => ∃ (r D : Addr) (i : Nat) (tl : TL) (m : PTok × Value), vs = [.ref r] ∧ RdAt A H r i D tl ∧ tl[i]? = some m ∧
  (∀ a l', takePlain ((tl.map (·.1)).drop i) = .ok (a, l') → ∀ i' H' v, l' = (tl.map (·.1)).drop i' → i' < tl.length → RdAt A H' r i' D tl → But r H H' → AddrAt H' a v → Q (.ref v) H') ∧ (∀ f, takePlain ((tl.map (·.1)).drop i) = .error f → OutR A E r H f)
abbrev N_read_plain_address : List Str := ["reader", "place", "word", "least"]
theorem sc_read_plain_address : FnScope N_read_plain_address ["reader"] (defScope (top 78)) := ⟨rfl, rfl, rfl, by decide +kernel, rfl, by decide +kernel, by decide +kernel⟩
theorem k_read_plain_address (T : Txt K mg A) : Ok P w K mg base 4 "read_plain_address" (spReadPlain A) := by
  refine ok_mk T.d_read_plain_address sc_read_plain_address (fun vs H Q E ⟨_, _, _, _, _, e, _⟩ => by rw [e]; rfl) fun f cdv AA outer s H vs Q E hr tk po h => ⟨_, (pss_cons (ps_set (i := 1) sc_read_plain_address.nd rfl (Or.inl rfl) (pe_plc (pe_m0 (mo_following T) T.q_Reader.cl hr tk (pv 0))))
    (pss_cons (ps_set (i := 2) sc_read_plain_address.nd rfl (Or.inl rfl) (pe_m0 (mo_take T) T.q_Reader.cl hr tk (pv 0)))
    (pss_cons (ps_if (pt_cmpR op_in_seq (pv 2) (pe_gt T.c_BARE_ADDRESSES) rfl) (pss_one (ps_ret (pe_tup (pa_cons (pv 2) pa_nil)))) pss_nil)
    (pss_cons (ps_if (pt_cmpR op_in_seq (pv 2) (pe_gt T.c_LETTERS_ADDRESSES) rfl) (pss_one (ps_ret (pe_tup (pa_cons (pv 2) (pa_cons (pe_m0 (mo_take_letters T) T.q_Reader.cl hr tk (pv 0)) pa_nil))))) pss_nil)
    (pss_cons (ps_if (pt_cmpR op_eq (pv 2) pe_str (nomark _)) (pss_one (ps_ret (pe_tup (pa_cons (pv 2) (pa_cons (pe_m (mo_take_number T) T.q_Reader.cl hr tk (pv 0) (pa_cons pe_int (pa_cons (pe_gv T.c_GREATEST_LINE) pa_nil))) pa_nil))))) pss_nil)
    (pss_cons (ps_if (pt_cmpR op_eq (pv 2) pe_str (nomark _)) (pss_cons (ps_set (i := 3) sc_read_plain_address.nd rfl (Or.inl rfl) (pe_m (mo_take_number T) T.q_Reader.cl hr tk (pv 0) (pa_cons pe_int (pa_cons (pe_gv T.c_GREATEST_LINE) pa_nil))))
    (pss_cons (ps_expr (pe_m (mo_take_just T) T.q_Reader.cl hr tk (pv 0) (pa_cons pe_str pa_nil)))
    (pss_one (ps_ret (pe_tup (pa_cons (pv 2) (pa_cons (pv 3) (pa_cons (pe_m (mo_take_number T) T.q_Reader.cl hr tk (pv 0) (pa_cons (pv 3) (pa_cons (pe_gv T.c_GREATEST_LINE) pa_nil))) pa_nil)))))))) pss_nil)
    (pss_one (ps_raise rfl tk (pmk_ex (xk_Fault T) hr (pa_cons pe_int (pa_cons (pv 1) pa_nil))))))))))), ?_⟩
  obtain ⟨r, D, i, tl, m, rfl, rd, hm, q, o⟩ := h
  obtain ⟨dx, ho⟩ := rd.obj
  obtain ⟨tok, hd, rel, more⟩ := rd.tok hm
  rw [hd] at q o
  refine ⟨_, rfl, r, dx, _, rfl, ho, rfl, r, D, i, tl, m, rfl, rd, hm, fun a ha => ?_⟩
  refine ⟨a, A.to, _, _, rfl, ha, T.q_Token.cl, T.q_Token.no _ (by decide), ?_⟩
  refine ⟨_, rfl, r, dx, _, rfl, ho, rfl, r, D, i, tl, m, rfl, rd, hm, fun H1 rd1 bt1 => ?_⟩
  obtain ⟨dx1, ho1⟩ := rd1.obj
  refine ⟨_, rfl, fun t ht => ⟨t, _, rfl, .inr ht, flat_tok _, rfl, ?_⟩⟩
  rw [show ([.str "all", .str "last"] : List V) = [word "all", word "last"].map sV from by decide +kernel, inV_tok]
  refine ⟨_, rfl, if_2 (fun k => ?_) fun k1 => ?_⟩
  · obtain ⟨b, e, hb⟩ := isIn_true k
    rw [takePlain_word tok e] at q
    refine ⟨_, rfl, sz1, fun p hp => ?_⟩
    have s1 := same_new (o := .tup [tokV m.1.tok]) hp
    rcases List.mem_cons.mp hb with rfl | hb
    · refine q .all _ rfl (i + 1) _ p rfl (more (by rw [e]; decide)) (rd1.same s1) (bt1.trans (.of s1)) ?_
      show upd _ _ _ p = _
      rw [upd_same, tokV_str e, show sV (word "all") = V.str "all" from by decide +kernel]
    · cases List.mem_singleton.mp hb
      refine q .last _ rfl (i + 1) _ p rfl (more (by rw [e]; decide)) (rd1.same s1) (bt1.trans (.of s1)) ?_
      show upd _ _ _ p = _
      rw [upd_same, tokV_str e, show sV (word "last") = V.str "last" from by decide +kernel]
  refine ⟨_, rfl, fun t ht => ⟨t, _, rfl, .inr ht, flat_tok _, rfl, ?_⟩⟩
  rw [show ([.str "has", .str "is"] : List V) = [word "has", word "is"].map sV from by decide +kernel, inV_tok]
  refine ⟨_, rfl, if_2 (fun k => ?_) fun k2 => ?_⟩
  · obtain ⟨b, e, hb⟩ := isIn_true k
    have ne0 : tokB m.1.tok ≠ some [] := by
      rw [e]
      rcases List.mem_cons.mp hb with rfl | hb
      · decide
      · cases List.mem_singleton.mp hb; decide
    obtain ⟨m2, hm2⟩ := rd.next hm ne0
    obtain ⟨tok2, hd2, rel2, more2⟩ := rd1.tok hm2
    rw [takePlain_word tok e] at q o
    rw [hd2] at q o
    refine ⟨_, rfl, _, rfl, r, dx1, _, rfl, ho1, rfl, r, D, i + 1, tl, m2, rfl, rd1, hm2, fun x ex gx H2 rd2 bt2 => ⟨sz2, fun p hp => ?_⟩, fun bad => ?_⟩
    · have s2 := same_new (o := .tup [tokV m.1.tok, sV x]) hp
      have n0 : tokB m2.1.tok ≠ some [] := by
        rw [ex]
        intro z
        cases z
        exact absurd gx (by decide)
      have lo := letters_ok (r := (tl.map (·.1)).drop (i + 1 + 1)) tok2 ex gx
      rcases List.mem_cons.mp hb with rfl | hb
      · refine q (.has x) _ (by show Except.map _ (takeLetters _) = _; rw [lo]; rfl) (i + 2) _ p rfl (more2 n0) (rd2.same s2) ((bt1.trans bt2).trans (.of s2)) ?_
        show upd _ _ _ p = _
        rw [upd_same, tokV_str e, show sV (word "has") = V.str "has" from by decide +kernel]
      · cases List.mem_singleton.mp hb
        refine q (.is_ x) _ (by show Except.map _ (takeLetters _) = _; rw [lo]; rfl) (i + 2) _ p rfl (more2 n0) (rd2.same s2) ((bt1.trans bt2).trans (.of s2)) ?_
        show upd _ _ _ p = _
        rw [upd_same, tokV_str e, show sV (word "is") = V.str "is" from by decide +kernel]
    · have lo := letters_bad (r := (tl.map (·.1)).drop (i + 1 + 1)) tok2 bad
      refine (o ⟨3, m2.1.place⟩ ?_).mono bt1
      rcases List.mem_cons.mp hb with rfl | hb
      · show Except.map _ (takeLetters _) = _; rw [lo]; rfl
      · cases List.mem_singleton.mp hb
        show Except.map _ (takeLetters _) = _; rw [lo]; rfl
  refine ⟨_, rfl, (show V.str "line" = sV (word "line") from by decide +kernel) ▸ scal_w _ _, ?_⟩
  rw [show decide (tokV m.1.tok = V.str (Str.ofString "line")) = decide (tokB m.1.tok = some (word "line")) from (show (V.str (Str.ofString "line") : V) = sV (word "line") by decide +kernel) ▸ tokV_w _ _]
  refine ⟨_, rfl, if_2 (fun k => ?_) fun k3 => ?_⟩
  · have e : tokB m.1.tok = some (word "line") := by simpa using k
    obtain ⟨m2, hm2⟩ := rd.next hm (by rw [e]; decide)
    obtain ⟨tok2, hd2, rel2, more2⟩ := rd1.tok hm2
    rw [takePlain_word tok e] at q o
    rw [hd2] at q o
    refine ⟨_, rfl, _, rfl, r, dx1, _, rfl, ho1, rfl, r, D, i + 1, 1, 99, tl, m2, rfl, rd1, hm2, fun n en h1 h2 H2 rd2 bt2 => ⟨sz2, fun p hp => ?_⟩, fun n en h => (o ⟨7, m2.1.place⟩ ?_).mono bt1, fun h => (o ⟨3, m2.1.place⟩ ?_).mono bt1⟩
    · have s2 := same_new (o := .tup [tokV m.1.tok, nV n]) hp
      refine q (.line n) _ (by show Except.map _ (takeNum _ _ _) = _; rw [num_ok en h1 h2]; rfl) (i + 2) _ p rfl (more2 (by rw [en]; intro z; cases z)) (rd2.same s2) ((bt1.trans bt2).trans (.of s2)) ?_
      show upd _ _ _ p = _
      rw [upd_same, tokV_str e, show sV (word "line") = V.str "line" from by decide +kernel]
    · show Except.map _ (takeNum _ _ _) = _; rw [num_7 en h]; rfl
    · show Except.map _ (takeNum _ _ _) = _; rw [num_3 h]; rfl
  have k3 : tokB m.1.tok ≠ some (word "line") := by simpa using k3
  refine ⟨_, rfl, (show V.str "from" = sV (word "from") from by decide +kernel) ▸ scal_w _ _, ?_⟩
  rw [show decide (tokV m.1.tok = V.str (Str.ofString "from")) = decide (tokB m.1.tok = some (word "from")) from (show (V.str (Str.ofString "from") : V) = sV (word "from") by decide +kernel) ▸ tokV_w _ _]
  refine ⟨_, rfl, if_2 (fun k => ?_) fun k4 => ?_⟩
  · have e : tokB m.1.tok = some (word "from") := by simpa using k
    obtain ⟨m2, hm2⟩ := rd.next hm (by rw [e]; decide)
    obtain ⟨tok2, hd2, rel2, more2⟩ := rd1.tok hm2
    rw [takePlain_word tok e] at q o
    rw [hd2] at q o
    refine ⟨_, rfl, r, dx1, _, rfl, ho1, rfl, r, D, i + 1, 1, 99, tl, m2, rfl, rd1, hm2, fun n en h1 h2 H2 rd2 bt2 => ?_, fun n en h => (o ⟨7, m2.1.place⟩ ?_).mono bt1, fun h => (o ⟨3, m2.1.place⟩ ?_).mono bt1⟩
    · obtain ⟨dx2, ho2⟩ := rd2.obj
      obtain ⟨m3, hm3⟩ := rd1.next hm2 (by rw [en]; intro z; cases z)
      obtain ⟨tok3, hd3, rel3, more3⟩ := rd2.tok hm3
      have q : ∀ a l', Except.bind (takeNum 1 99 (m2.1 :: (tl.map (·.1)).drop (i + 1 + 1))) _ = .ok (a, l') → _ := q
      have o : ∀ f, Except.bind (takeNum 1 99 (m2.1 :: (tl.map (·.1)).drop (i + 1 + 1))) _ = .error f → _ := o
      rw [num_ok en h1 h2] at q o
      rw [hd3] at q o
      refine ⟨_, rfl, r, dx2, _, rfl, ho2, rfl, r, D, i + 2, tl, m3, word "to", by rw [show sV (word "to") = V.str "to" from by decide +kernel]; rfl, rd2, hm3, fun e3 H3 v3 rd3 bt3 => ?_, fun ne3 => (o ⟨3, m3.1.place⟩ ?_).mono (bt1.trans bt2)⟩
      · obtain ⟨dx3, ho3⟩ := rd3.obj
        obtain ⟨m4, hm4⟩ := rd2.next hm3 (by rw [e3]; decide)
        obtain ⟨tok4, hd4, rel4, more4⟩ := rd3.tok hm4
        have q : ∀ a l', Except.bind (VasedBase.takeWord "to" (m3.1 :: (tl.map (·.1)).drop (i + 1 + 1 + 1))) _ = .ok (a, l') → _ := q
        have o : ∀ f, Except.bind (VasedBase.takeWord "to" (m3.1 :: (tl.map (·.1)).drop (i + 1 + 1 + 1))) _ = .error f → _ := o
        rw [takeWord_cons tok3, if_pos e3] at q o
        rw [hd4] at q o
        refine ⟨_, rfl, _, rfl, _, rfl, r, dx3, _, rfl, ho3, rfl, _, rfl, r, D, i + 3, n, 99, tl, m4, rfl, rd3, hm4, fun n2 en2 g1 g2 H4 rd4 bt4 => ⟨sz3, fun p hp => ?_⟩, fun n2 en2 h => (o ⟨7, m4.1.place⟩ ?_).mono ((bt1.trans bt2).trans bt3), fun h => (o ⟨3, m4.1.place⟩ ?_).mono ((bt1.trans bt2).trans bt3)⟩
        · have s4 := same_new (o := .tup [tokV m.1.tok, nV n, nV n2]) hp
          refine q (.span n n2) _ (by show Except.map _ (takeNum _ _ _) = _; rw [num_ok en2 g1 g2]; rfl) (i + 4) _ p rfl (more4 (by rw [en2]; intro z; cases z)) (rd4.same s4) ((((bt1.trans bt2).trans bt3).trans bt4).trans (.of s4)) ?_
          show upd _ _ _ p = _
          rw [upd_same, tokV_str e, show sV (word "from") = V.str "from" from by decide +kernel]
        · show Except.map _ (takeNum _ _ _) = _; rw [num_7 en2 h]; rfl
        · show Except.map _ (takeNum _ _ _) = _; rw [num_3 h]; rfl
      · show Except.bind (VasedBase.takeWord _ _) _ = _; rw [takeWord_cons tok3, if_neg ne3]; rfl
    · show Except.bind (takeNum _ _ _) _ = _; rw [num_7 en h]; rfl
    · show Except.bind (takeNum _ _ _) _ = _; rw [num_3 h]; rfl
  have k4 : tokB m.1.tok ≠ some (word "from") := by simpa using k4
  refine ⟨_, rfl, ?_⟩
  refine raiseF T ((o ⟨3, m.1.place⟩ ?_).mono bt1).out
  cases e : tokB m.1.tok with
  | none => rw [takePlain_num tok e]; rfl
  | some b =>
    rw [takePlain_word tok e]
    have n1 := isIn_false k1 e
    have n2 := isIn_false k2 e
    unfold plainOf
    rw [if_neg (fun z => n1 (by rw [z]; decide)), if_neg (fun z => n1 (by rw [z]; decide)), if_neg (fun z => n2 (by rw [z]; decide)), if_neg (fun z => n2 (by rw [z]; decide)), if_neg (fun z => k3 (by rw [e, z])), if_neg (fun z => k4 (by rw [e, z]))]
    rfl
end
end Lp
set_option maxRecDepth 100000
set_option maxHeartbeats 2000000
/-! A value stored under a name and read again as it stands. -/
namespace Lp
open PySem PySem.Spec PyProof.Rows L2
section
variable {X : Cx} {pins : Pins} {σ : L2.St} {H : Hp} {z : Shared}
theorem store_raw {M : Model} {A : Around} {E : Value → Shared → Prop} {i : Nat} {x : Str} {v : V} {u : Value} {Q : Unit → Shared → Prop} (I : Inv X pins σ H z) (nd : X.N.Nodup) (hi : X.N[i]? = some x) (hk : X.env.scope.names.lookup x = some .local) (r : RelV v u)
    (h : ∀ y, Inv X pins (σ.set i (some v)) H y → (∃ m, y.heap.Ns X.env.locals m ∧ m x = some u) → Q () y) : wpAny M A (storeName X.env x u) Q E z := by
  obtain ⟨m, hn, hl⟩ := id I.loc
  have own : (X.env.scope.kind == .class || (X.env.scope.kind == .module && X.env.locals != X.env.globals)) = false := by rw [I.ok.kind]; rfl
  have li : i < σ.length := by rw [I.len]; exact get_lt hi
  refine wpAny_storeName_local hk hn (fun g gn sb => ?_) own
  obtain ⟨ol, _, _, hol, _⟩ := id hn
  have up0 : ∀ {b : Addr} {o : Obj}, X.s_0.heap.get? b = some o → b ≠ X.env.locals := fun e => Nat.ne_of_lt (Nat.lt_of_lt_of_le (Heap.lt_size e) I.ok.above)
  have tr : HOk X.prog X.w H g := fun b o e => (I.hok b o e).stay (fun c q hc e2 => (sb.2 c (fun ec => by
    rcases hc with hc | hc
    · rw [← hc, ec, I.free] at e; cases e
    · rw [ec, I.free] at hc; cases hc)).trans e2) (fun _ q => q) fun _ _ q => q
  have at1 : ∀ (j : Nat) (y : Str) (w : V), X.N[j]? = some y → (σ.set i (some v))[j]? = some (some w) → Vis X.env.scope y → ∃ q, RelV w q ∧ Look X.env g (fun n => if n = x then some u else m n) y q := fun j y w e1 e2 e3 => by
    by_cases ji : j = i
    · rw [ji, hi] at e1
      cases e1
      rw [ji, List.getElem?_set_self li] at e2
      cases e2
      exact ⟨u, r, .inl ⟨hk, if_pos rfl⟩⟩
    · rw [List.getElem?_set_ne (Ne.symm ji)] at e2
      obtain ⟨q, rq, lk⟩ := hl j y w e1 e2 e3
      refine ⟨q, rq, lk.imp (fun k => ⟨k.1, ?_⟩) fun ⟨k, c, e, ce⟩ => ⟨k, c, e, ce.sameBut sb (I.cne y c e)⟩⟩
      show (if y = x then some u else m y) = some q
      rw [if_neg (fun e : y = x => ji (nodup_ix nd e1 (by rw [e]; exact hi)))]
      exact k.2
  refine h _ ⟨I.ok, I.os, I.bare, ?_, ⟨_, gn, at1⟩, fun y c e => let ⟨w, k⟩ := I.cell y c e; ⟨w, k.sameBut sb (I.cne y c e)⟩, I.free, I.freeC, fun p hp => ?_, tr, by rw [List.length_set]; exact I.len⟩ ⟨_, gn, if_pos rfl⟩
  · exact ⟨fun b o e n hb hx => (sb.2 b (up0 e)).trans (I.base.keep b o e n hb hx), fun b o e n hb hx => let ⟨sl, q⟩ := I.base.slot b o e n hb hx; ⟨sl, (sb.2 b (up0 e)).trans q⟩, I.base.free, fun b o e hx => let ⟨q, e1⟩ := I.base.there b o e hx; ⟨q, (sb.2 b (up0 e)).trans e1⟩, I.base.tups, I.base.frzs, I.base.tbls⟩
  · obtain ⟨e, n, ne, nf, d⟩ := I.pin p hp
    exact ⟨(sb.2 p.1 ne).trans e, n, ne, nf, d⟩
/-- n = e1; return (k, n, e2): the tuple is known as it stands -/
def tSwap (ik i : Nat) (t1 t2 : TR) : TSR := fun D σ G z => t1 σ G z fun u1 G1 y => ∃ v1 vk, RelV v1 u1 ∧ (σ.set i (some v1))[ik]? = some (some vk) ∧ ∀ y2 : Shared, y.toks ≤ y2.toks → t2 (σ.set i (some v1)) G1 y2 fun u2 G2 y3 => ∃ v2, RelV v2 u2 ∧
  ∀ (p : Addr) (o : Obj) (uk : Value), RelV vk uk → G2 p = none → o.cls = .type "tuple" → (∃ n, o.data = .seq #[uk, u1, u2] n) → o.dict = none → ∀ y4 : Shared, y3.toks ≤ y4.toks → D.rt (.ref p) (upd G2 p (.frz o (.tup [vk, v1, v2]))) y4
theorem pssr_swap {ik i : Nat} {kx x : Str} {e1 e2 : Expr} {t1 t2 : TR} {q1 q2 q3 q4 q5 q6 : Pos} {c : Nat} (nd : X.N.Nodup) (hik : X.N[ik]? = some kx) (vk : Vis X.env.scope kx) (hi : X.N[i]? = some x) (hx : X.env.scope.names.lookup x = some .local) (h1 : PR X e1 t1) (h2 : PR X e2 t2)
    (hs : swapsWith e1 (some (.Name x q1)) q2.line X.env = pure false := by rfl) (hst : starEach [.Name kx q3, .Name x q4, e2] X.env = [(false, eval (.Name kx q3) X.env), (false, eval (.Name x q4) X.env), (false, eval e2 X.env)] := by rfl)
    (d1 : (kx == ("__debug__" : Str)) = false := by decide) (d2 : (kx == ("__classdict__" : Str)) = false := by decide) (d3 : (x == ("__debug__" : Str)) = false := by decide) :
    PSsR X [.Assign [.Name x q1] e1 q2, .Return (some (.Tuple [.Name kx q3, .Name x q4, e2] c q5)) q6] (tSwap ik i t1 t2) := ⟨fun pins z σ G D I q => by
  refine wpAny_execs_cons (wpAny_Assign_Name (thn (h1.run pins z σ G _ I q) fun u1 y ⟨G1, J, v1, kv, r1, hk, q⟩ => wp_le (store_raw (Q := fun _ y2 => Inv X pins (σ.set i (some v1)) G1 y2 ∧ ∃ m, y2.heap.Ns X.env.locals m ∧ m x = some u1) J nd hi hx r1 fun y2 J2 hm => ⟨J2, hm⟩) fun _ y2 le ⟨J2, m, hn, hm⟩ => ?_) hs)
  refine wpAny_execs_cons (wpAny_Return_some ?_)
  refine wpAny_Tuple_spliced ?_
  rw [hst]
  refine Calls.spliced_cons (raw_name hik vk J2 hk (fun uk rk => ?_) d1 d2)
  refine Calls.spliced_cons (wpAny_Name (wpAny_loadName_local J2.ok.kind hx hn hm ?_) d3)
  refine Calls.spliced_cons (thn (h2.run pins y2 _ G1 _ J2 (q y2 le)) fun u2 y3 ⟨G2, J3, v2, r2, k⟩ => Calls.spliced_nil ?_)
  have fr : G2 y3.heap.objs.size = none := J3.hok.fresh (Nat.le_refl _)
  refine ⟨show 3 ≤ sizeLine from sz3, ?_⟩
  refine ⟨_, _, J3.laid (o := .frz { cls := .type "tuple", data := .seq #[uk, u1, u2] 0 } (.tup [kv, v1, v2])) (t' := y3.toks) (fun b u e => Heap.get?_push_of_some _ e) (Nat.le_refl _) ?_, k _ _ uk rk fr rfl ⟨0, rfl⟩ rfl _ (Nat.le_refl _)⟩
  exact ⟨Heap.get?_push_size _ rfl, by show 3 ≤ sizeLine; exact sz3, [uk, u1, u2], .cons rk (.cons r1 (.cons r2 .nil)), ⟨_, Heap.get?_push_size _ rfl, rfl, 0, rfl⟩⟩⟩
end
end Lp
set_option maxRecDepth 100000
set_option maxHeartbeats 2000000
namespace Lp
open PySem PySem.Spec PyProof.Rows L2
open VasedBase (Bytes PTok Toks tokens word Fault RESERVED)
open Vasedc (tellable)
open Vaseda (takeLetters takeNum takeDeed takeInstead takeTwo)
def tStrR (c : Str) : TR := fun _ G z Q => ∀ t (y : Shared), t = z.toks → y.toks = z.toks + 1 → Q (.str c t) G y
theorem pr_str {X : Cx} {c : Str} {j : Nat} {pos : Pos} : PR X (.Constant (.str c) j pos) (tStrR c) := ⟨fun pins z σ G Q I h => Calls.Constant_str ⟨G, I.tok _, h _ _ rfl rfl⟩⟩
theorem name_of {t : VasedBase.Tok} {x : Bytes} (h : tokB t = some x) (g : goodB x = true) : t = .name x := by
  cases t with
  | name b => cases h; rfl
  | num n => cases h
  | sign c => cases h; exact absurd g (by decide)
  | last => cases h; exact absurd g (by decide)
/-- a deed as the program holds it -/
def DeedAt (H : Hp) : Vaseda.Deed → Addr → Prop
  | .delete, v => H v = some (.tup [.str "delete"])
  | .before x, v => H v = some (.tup [.str "before", sV x])
  | .after x, v => H v = some (.tup [.str "after", sV x])
  | .change x, v => H v = some (.tup [.str "change", sV x])
  | .swap a b, v => ∃ o uk t u n, H v = some (.frz o (.tup [.str "swap", sV a, sV b])) ∧ o.cls = .type "tuple" ∧ o.data = .seq #[uk, .str (toS a) t, .str (toS b) u] n ∧ t ≠ 0 ∧ u ≠ 0 ∧ t ≠ u
  | .first a b, v => ∃ o uk t u n, H v = some (.frz o (.tup [.str "first", sV a, sV b])) ∧ o.cls = .type "tuple" ∧ o.data = .seq #[uk, .str (toS a) t, .str (toS b) u] n ∧ t ≠ 0 ∧ u ≠ 0 ∧ t ≠ u
  | .keep, v => H v = some (.tup [.str "keep"])
  | .bring, v => H v = some (.tup [.str "bring"])
  | .trade, v => H v = some (.tup [.str "trade"])
  | .skip k, v => H v = some (.tup [.str "skip", nV k])
  | .halt_, v => H v = some (.tup [.str "stop"])
/-- tuples stay, also those known as they stand -/
def KeepF (H H' : Hp) : Prop := KeepT H H' ∧ ∀ a o vs, H a = some (.frz o (.tup vs)) → H' a = some (.frz o (.tup vs))
theorem DeedAt.keep {H H' : Hp} (k : KeepF H H') : ∀ {d : Vaseda.Deed} {v : Addr}, DeedAt H d v → DeedAt H' d v
  | .delete, _, h => k.1 _ _ h
  | .before _, _, h => k.1 _ _ h
  | .after _, _, h => k.1 _ _ h
  | .change _, _, h => k.1 _ _ h
  | .swap _ _, _, ⟨o, uk, t, u, n, h, r⟩ => ⟨o, uk, t, u, n, k.2 _ _ _ h, r⟩
  | .first _ _, _, ⟨o, uk, t, u, n, h, r⟩ => ⟨o, uk, t, u, n, k.2 _ _ _ h, r⟩
  | .keep, _, h => k.1 _ _ h
  | .bring, _, h => k.1 _ _ h
  | .trade, _, h => k.1 _ _ h
  | .skip _, _, h => k.1 _ _ h
  | .halt_, _, h => k.1 _ _ h
section
variable {P : Program} {w : World} {K : PySem.W.Frag} {mg : Str → Option Value} {base : Heap} {A : Ad}
def spOrNoneR (A : Ad) : SpR := fun vs H z Q E => ∃ (r D : Addr) (i : Nat) (tl : TL) (m : PTok × Value), vs = [.ref r] ∧ RdAt A H r i D tl ∧ tl[i]? = some m ∧
  (tokB m.1.tok = some (word "none") → ∀ H' (y : Shared) (t : Nat), RdAt A H' r (i + 1) D tl → But r H H' → z.toks ≤ t → t < y.toks → Q (.str (toS []) t) H' y) ∧
  (∀ x, tokB m.1.tok = some x → goodB x = true → ∀ H' (y : Shared), z.toks ≤ y.toks → RdAt A H' r (i + 1) D tl → But r H H' → Q m.2 H' y) ∧
  (tokB m.1.tok ≠ some (word "none") → (∀ x, tokB m.1.tok = some x → goodB x = false) → OutR A E r H ⟨3, m.1.place⟩)
abbrev N_read_letters_or_none : List Str := ["reader"]
theorem sc_read_letters_or_none : FnScope N_read_letters_or_none ["reader"] (defScope (top 80)) := ⟨rfl, rfl, rfl, by decide +kernel, rfl, by decide +kernel, by decide +kernel⟩
theorem k_or_none (T : Txt K mg A) : OkR P w K mg base 4 "read_letters_or_none" (spOrNoneR A) := by
  refine okr_mk T.d_read_letters_or_none sc_read_letters_or_none (fun vs H z Q E ⟨_, _, _, _, _, e, _⟩ => by rw [e]; rfl) fun f cdv AA outer z H vs Q E hr tk po h => ⟨_, (pssr_cons (psr_if (pt_cmpR op_eq (pe_val (pe_m0 (mo_following T) T.q_Reader.cl hr tk (pv 0))) pe_str (nomark _)) (pssr_cons (psr_up (ps_expr (pe_m0 (mo_take T) T.q_Reader.cl hr tk (pv 0))))
    (pssr_one (psr_ret pr_str))) (pssr_up pss_nil))
    (pssr_one (psr_ret (pr_m0 (mr_take_letters T) T.q_Reader.cl hr tk (pv 0))))), fun y le => ?_⟩
  obtain ⟨r, D, i, tl, m, rfl, rd, hm, qn, q, o⟩ := h
  obtain ⟨dx, ho⟩ := rd.obj
  obtain ⟨tok, _, rel, _⟩ := rd.tok hm
  refine ⟨_, rfl, r, dx, _, rfl, ho, rfl, r, D, i, tl, m, rfl, rd, hm, fun a ha => ?_⟩
  refine ⟨a, A.to, _, _, tokV m.1.tok, rfl, ha, T.q_Token.cl, T.q_Token.no _ (by decide), rel, ?_⟩
  refine ⟨(show V.str "none" = sV (word "none") from by decide +kernel) ▸ scal_w _ _, ?_⟩
  rw [show decide (tokV m.1.tok = V.str (Str.ofString "none")) = decide (tokB m.1.tok = some (word "none")) from (show (V.str (Str.ofString "none") : V) = sV (word "none") by decide +kernel) ▸ tokV_w _ _]
  refine ⟨_, rfl, fun y1 l1 => if_2 (fun k => ?_) fun k => ?_⟩
  · have k : tokB m.1.tok = some (word "none") := by simpa using k
    refine ⟨_, rfl, r, dx, _, rfl, ho, rfl, r, D, i, tl, m, rfl, rd, hm, fun H' rd' bt y2 l2 => ?_⟩
    exact fun t y3 e1 e2 => qn k H' y3 t rd' bt (by omega) (by omega)
  · have k : tokB m.1.tok ≠ some (word "none") := by simpa using k
    intro y2 l2
    exact ⟨_, rfl, r, dx, _, rfl, ho, rfl, fun y3 l3 => ⟨r, D, i, tl, m, rfl, rd, hm, fun x ex gx H' y4 l4 rd' bt l5 => q x ex gx H' y4 (by omega) rd' bt, fun bad => o k bad⟩⟩
def spDeedR (A : Ad) : SpR := fun vs H z Q E => ∃ (r D : Addr) (i U : Nat) (tl : TL) (m : PTok × Value), vs = [.ref r] ∧ RdAt A H r i D tl ∧ tl[i]? = some m ∧ Sep U tl ∧ U ≤ z.toks ∧
  (∀ d l', takeDeed ((tl.map (·.1)).drop i) = .ok (d, l') → ∀ i' H' v (y : Shared), l' = (tl.map (·.1)).drop i' → i' < tl.length → RdAt A H' r i' D tl → But r H H' → DeedAt H' d v → z.toks ≤ y.toks → Q (.ref v) H' y) ∧ (∀ f, takeDeed ((tl.map (·.1)).drop i) = .error f → OutR A E r H f)
abbrev N_read_deed : List Str := ["reader", "place", "word", "old"]
theorem sc_read_deed : FnScope N_read_deed ["reader"] (defScope (top 79)) := ⟨rfl, rfl, rfl, by decide +kernel, rfl, by decide +kernel, by decide +kernel⟩
theorem word_is {s : String} {e : Option Bytes} {v : V} {w : Bytes} (h1 : e = some w) (h2 : ∀ b, e = some b → v = sV b) (h3 : (Str.ofString s == toS w) = true := by decide +kernel) : v = V.str (Str.ofString s) := by
  rw [h2 w h1]
  exact congrArg V.str (eq_of_beq h3).symm
theorem k_read_deed (T : Txt K mg A) : OkR P w K mg base 5 "read_deed" (spDeedR A) := by
  refine okr_mk T.d_read_deed sc_read_deed (fun vs H z Q E ⟨_, _, _, _, _, _, e, _⟩ => by rw [e]; rfl) fun f cdv AA outer z H vs Q E hr tk po h => ⟨_, (pssr_cons (psr_up (ps_set (i := 1) sc_read_deed.nd rfl (Or.inl rfl) (pe_plc (pe_m0 (mo_following T) T.q_Reader.cl hr tk (pv 0)))))
    (pssr_cons (psr_up (ps_set (i := 2) sc_read_deed.nd rfl (Or.inl rfl) (pe_m0 (mo_take T) T.q_Reader.cl hr tk (pv 0))))
    (pssr_cons (psr_up (ps_if (pt_cmpR op_in_seq (pv 2) (pe_gt T.c_BARE_DEEDS) rfl) (pss_one (ps_ret (pe_tup (pa_cons (pv 2) pa_nil)))) pss_nil))
    (pssr_cons (psr_up (ps_if (pt_cmpR op_in_seq (pv 2) (pe_gt T.c_LETTERS_DEEDS) rfl) (pss_one (ps_ret (pe_tup (pa_cons (pv 2) (pa_cons (pe_m0 (mo_take_letters T) T.q_Reader.cl hr tk (pv 0)) pa_nil))))) pss_nil))
    (pssr_cons (psr_if (pt_cmpR op_in_seq (pv 2) (pe_gt T.c_SWAP_DEEDS) rfl) (pssr_swap (ik := 2) (i := 3) sc_read_deed.nd rfl (.inl rfl) rfl rfl (pr_m0 (mr_take_letters T) T.q_Reader.cl hr tk (pv 0)) (pr_k (k_or_none T) hr tk (par_up (pa_cons (pv 0) pa_nil)))) (pssr_up pss_nil))
    (pssr_cons (psr_up (ps_if (pt_cmpR op_eq (pv 2) pe_str (nomark _)) (pss_one (ps_ret (pe_tup (pa_cons (pv 2) (pa_cons (pe_m (mo_take_number T) T.q_Reader.cl hr tk (pv 0) (pa_cons pe_int (pa_cons (pe_gv T.c_GREATEST_SKIP) pa_nil))) pa_nil))))) pss_nil))
    (pssr_one (psr_up (ps_raise rfl tk (pmk_ex (xk_Fault T) hr (pa_cons pe_int (pa_cons (pv 1) pa_nil)))))))))))), fun y le => ?_⟩
  obtain ⟨r, D, i, U, tl, m, rfl, rd, hm, sep, hU, q, o⟩ := h
  obtain ⟨dx, ho⟩ := rd.obj
  obtain ⟨tok, hd, rel, more⟩ := rd.tok hm
  rw [hd] at q o
  refine ⟨_, rfl, r, dx, _, rfl, ho, rfl, r, D, i, tl, m, rfl, rd, hm, fun a ha => ?_⟩
  refine ⟨a, A.to, _, _, rfl, ha, T.q_Token.cl, T.q_Token.no _ (by decide), fun ya la => ?_⟩
  refine ⟨_, rfl, r, dx, _, rfl, ho, rfl, r, D, i, tl, m, rfl, rd, hm, fun H1 rd1 bt1 y1 l1 => ?_⟩
  obtain ⟨dx1, ho1⟩ := rd1.obj
  have tv : ∀ b, tokB m.1.tok = some b → tokV m.1.tok = sV b := fun b e => tokV_str e
  refine ⟨_, rfl, fun t ht => ⟨t, _, rfl, .inr ht, flat_tok _, rfl, ?_⟩⟩
  rw [show ([.str "delete", .str "keep", .str "bring", .str "trade", .str "stop"] : List V) = [word "delete", word "keep", word "bring", word "trade", word "stop"].map sV from by decide +kernel, inV_tok]
  refine ⟨_, rfl, if_2 (fun k => ?_) fun k1 => ?_⟩
  · obtain ⟨b, e, hb⟩ := isIn_true k
    rw [takeDeed_word tok e] at q
    have ne0 : tokB m.1.tok ≠ some [] := fun z => by
      rw [e] at z
      cases z
      exact absurd hb (by decide)
    refine ⟨_, rfl, sz1, fun p hp u y3 l3 ru => ?_⟩
    cases (show u = Value.ref p from ru)
    have s1 := same_new (o := .tup [tokV m.1.tok]) hp
    have at_ : (upd H1 p (.tup [tokV m.1.tok])) p = some (.tup [tokV m.1.tok]) := upd_same
    simp only [List.mem_cons, List.not_mem_nil, or_false] at hb
    rcases hb with rfl | rfl | rfl | rfl | rfl
    · exact q .delete _ rfl (i + 1) _ p _ rfl (more ne0) (rd1.same s1) (bt1.trans (.of s1)) (by rw [word_is (s := "delete") e tv] at at_; rw [word_is (s := "delete") e tv]; exact at_) (by omega)
    · exact q .keep _ rfl (i + 1) _ p _ rfl (more ne0) (rd1.same s1) (bt1.trans (.of s1)) (by rw [word_is (s := "keep") e tv] at at_; rw [word_is (s := "keep") e tv]; exact at_) (by omega)
    · exact q .bring _ rfl (i + 1) _ p _ rfl (more ne0) (rd1.same s1) (bt1.trans (.of s1)) (by rw [word_is (s := "bring") e tv] at at_; rw [word_is (s := "bring") e tv]; exact at_) (by omega)
    · exact q .trade _ rfl (i + 1) _ p _ rfl (more ne0) (rd1.same s1) (bt1.trans (.of s1)) (by rw [word_is (s := "trade") e tv] at at_; rw [word_is (s := "trade") e tv]; exact at_) (by omega)
    · exact q .halt_ _ rfl (i + 1) _ p _ rfl (more ne0) (rd1.same s1) (bt1.trans (.of s1)) (by rw [word_is (s := "stop") e tv] at at_; rw [word_is (s := "stop") e tv]; exact at_) (by omega)
  intro y2 l2
  refine ⟨_, rfl, fun t ht => ⟨t, _, rfl, .inr ht, flat_tok _, rfl, ?_⟩⟩
  rw [show ([.str "before", .str "after", .str "change"] : List V) = [word "before", word "after", word "change"].map sV from by decide +kernel, inV_tok]
  refine ⟨_, rfl, if_2 (fun k => ?_) fun k2 => ?_⟩
  · obtain ⟨b, e, hb⟩ := isIn_true k
    have ne0 : tokB m.1.tok ≠ some [] := fun z => by
      rw [e] at z
      cases z
      exact absurd hb (by decide)
    obtain ⟨m2, hm2⟩ := rd.next hm ne0
    obtain ⟨tok2, hd2, rel2, more2⟩ := rd1.tok hm2
    rw [takeDeed_word tok e] at q o
    rw [hd2] at q o
    refine ⟨_, rfl, _, rfl, r, dx1, _, rfl, ho1, rfl, r, D, i + 1, tl, m2, rfl, rd1, hm2, fun x ex gx H2 rd2 bt2 => ⟨sz2, fun p hp u y3 l3 ru => ?_⟩, fun bad => (o ⟨3, m2.1.place⟩ ?_).mono bt1⟩
    · cases (show u = Value.ref p from ru)
      have s2 := same_new (o := .tup [tokV m.1.tok, sV x]) hp
      have n0 : tokB m2.1.tok ≠ some [] := by
        rw [ex]
        intro z
        cases z
        exact absurd gx (by decide)
      have lo := letters_ok (r := (tl.map (·.1)).drop (i + 1 + 1)) tok2 ex gx
      have at_ : (upd H2 p (.tup [tokV m.1.tok, sV x])) p = some (.tup [tokV m.1.tok, sV x]) := upd_same
      simp only [List.mem_cons, List.not_mem_nil, or_false] at hb
      rcases hb with rfl | rfl | rfl
      · exact q (.before x) _ (by show Except.map _ (takeLetters _) = _; rw [lo]; rfl) (i + 2) _ p _ rfl (more2 n0) (rd2.same s2) ((bt1.trans bt2).trans (.of s2)) (by rw [word_is (s := "before") e tv] at at_; rw [word_is (s := "before") e tv]; exact at_) (by omega)
      · exact q (.after x) _ (by show Except.map _ (takeLetters _) = _; rw [lo]; rfl) (i + 2) _ p _ rfl (more2 n0) (rd2.same s2) ((bt1.trans bt2).trans (.of s2)) (by rw [word_is (s := "after") e tv] at at_; rw [word_is (s := "after") e tv]; exact at_) (by omega)
      · exact q (.change x) _ (by show Except.map _ (takeLetters _) = _; rw [lo]; rfl) (i + 2) _ p _ rfl (more2 n0) (rd2.same s2) ((bt1.trans bt2).trans (.of s2)) (by rw [word_is (s := "change") e tv] at at_; rw [word_is (s := "change") e tv]; exact at_) (by omega)
    · have lo := letters_bad (r := (tl.map (·.1)).drop (i + 1 + 1)) tok2 bad
      simp only [List.mem_cons, List.not_mem_nil, or_false] at hb
      rcases hb with rfl | rfl | rfl
      · show Except.map _ (takeLetters _) = _; rw [lo]; rfl
      · show Except.map _ (takeLetters _) = _; rw [lo]; rfl
      · show Except.map _ (takeLetters _) = _; rw [lo]; rfl
  intro y3 l3
  refine ⟨_, rfl, fun t ht => ⟨t, _, rfl, .inr ht, flat_tok _, rfl, ?_⟩⟩
  rw [show ([.str "swap", .str "first"] : List V) = [word "swap", word "first"].map sV from by decide +kernel, inV_tok]
  refine ⟨_, rfl, fun y4 l4 => if_2 (fun k => ?_) fun k3 => ?_⟩
  · obtain ⟨b, e, hb⟩ := isIn_true k
    have ne0 : tokB m.1.tok ≠ some [] := fun z => by
      rw [e] at z
      cases z
      exact absurd hb (by decide)
    obtain ⟨m2, hm2⟩ := rd.next hm ne0
    obtain ⟨tok2, hd2, rel2, more2⟩ := rd1.tok hm2
    rw [takeDeed_word tok e] at q o
    rw [hd2] at q o
    have two : ∃ f : Bytes → Bytes → Vaseda.Deed, (∀ l r, deedOf b l r = takeTwo f r) ∧ (∀ H v a c, DeedAt H (f a c) v ↔ ∃ o uk t u n, H v = some (.frz o (.tup [tokV m.1.tok, sV a, sV c])) ∧ o.cls = .type "tuple" ∧ o.data = .seq #[uk, .str (toS a) t, .str (toS c) u] n ∧ t ≠ 0 ∧ u ≠ 0 ∧ t ≠ u) := by
      simp only [List.mem_cons, List.not_mem_nil, or_false] at hb
      rcases hb with rfl | rfl
      · exact ⟨.swap, fun l r => rfl, fun H v a c => by rw [word_is (s := "swap") e tv]; exact Iff.rfl⟩
      · exact ⟨.first, fun l r => rfl, fun H v a c => by rw [word_is (s := "first") e tv]; exact Iff.rfl⟩
    obtain ⟨f2, hf, hat⟩ := two
    rw [hf] at q o
    refine ⟨_, rfl, r, dx1, _, rfl, ho1, rfl, fun y5 l5 => ⟨r, D, i + 1, tl, m2, rfl, rd1, hm2, fun x ex gx H2 y6 l6 rd2 bt2 l7 => ?_, fun bad => (o ⟨3, m2.1.place⟩ ?_).mono bt1⟩⟩
    · have en2 := name_of ex gx
      obtain ⟨t1, ev1⟩ : ∃ t1, m2.2 = .str (toS x) t1 := by rw [en2] at rel2; exact rel2
      have nt2 : nameTok m2 = some t1 := by unfold nameTok; rw [en2, ev1]
      have p1 := sep.pos _ _ _ hm2 nt2
      have n0 : tokB m2.1.tok ≠ some [] := by
        rw [ex]
        intro z
        cases z
        exact absurd gx (by decide)
      obtain ⟨m3, hm3⟩ := rd1.next hm2 n0
      obtain ⟨tok3, hd3, rel3, more3⟩ := rd2.tok hm3
      have lo := letters_ok (r := (tl.map (·.1)).drop (i + 1 + 1)) tok2 ex gx
      have q : ∀ d l', Except.bind (takeLetters (m2.1 :: (tl.map (·.1)).drop (i + 1 + 1))) _ = .ok (d, l') → _ := q
      have o : ∀ f, Except.bind (takeLetters (m2.1 :: (tl.map (·.1)).drop (i + 1 + 1))) _ = .error f → _ := o
      rw [lo] at q o
      rw [hd3] at q o
      have q : ∀ d l', Except.map (fun y => (f2 x y.1, y.2)) (takeInstead (m3.1 :: (tl.map (·.1)).drop (i + 1 + 1 + 1))) = .ok (d, l') → _ := q
      have o : ∀ f, Except.map (fun y => (f2 x y.1, y.2)) (takeInstead (m3.1 :: (tl.map (·.1)).drop (i + 1 + 1 + 1))) = .error f → _ := o
      rw [takeInstead_cons tok3] at q o
      refine ⟨sV x, tokV m.1.tok, by rw [ev1]; exact ⟨t1, rfl⟩, rfl, fun y7 l8 => ?_⟩
      refine ⟨_, rfl, fun us y8 l9 hv => ⟨_, hv, r, D, i + 2, tl, m3, rfl, rd2, hm3, fun e3 H3 y9 t2 rd3 bt3 la lb lc => ?_, fun x3 ex3 gx3 H3 y9 l10 rd3 bt3 lc => ?_, fun n3 bad => ?_⟩⟩
      · rw [if_pos e3] at q
        refine ⟨sV [], ⟨t2, rfl⟩, fun p ob uk rk hp oc od _ y10 l11 => ?_⟩
        obtain ⟨n, od⟩ := od
        have sn := same_new (o := .frz ob (.tup [tokV m.1.tok, sV x, sV []])) hp
        refine q (f2 x []) _ rfl (i + 3) _ p _ rfl (more3 (by rw [e3]; decide)) (rd3.same sn) (((bt1.trans bt2).trans bt3).trans (.of sn)) ((hat _ _ _ _).mpr ⟨ob, uk, t1, t2, n, upd_same, oc, by rw [od, ev1], ?_, ?_, ?_⟩) (by omega)
        · exact Nat.ne_of_gt p1.1
        · have : U ≤ t2 := by omega
          have := p1.1; have := p1.2
          exact Nat.ne_of_gt (Nat.lt_of_lt_of_le p1.1 (Nat.le_trans (Nat.le_of_lt p1.2) (by omega)))
        · exact Nat.ne_of_lt (Nat.lt_of_lt_of_le p1.2 (by omega))
      · have en3 := name_of ex3 gx3
        obtain ⟨t2, ev2⟩ : ∃ t2, m3.2 = .str (toS x3) t2 := by rw [en3] at rel3; exact rel3
        have nt3 : nameTok m3 = some t2 := by unfold nameTok; rw [en3, ev2]
        have p2 := sep.pos _ _ _ hm3 nt3
        have p12 := sep.lt _ _ _ _ _ _ (Nat.lt_succ_self _) hm2 hm3 nt2 nt3
        have n3 : tokB m3.1.tok ≠ some (word "none") := by
          rw [ex3]
          intro z
          cases z
          exact absurd gx3 (by decide)
        rw [if_neg n3, letters_ok tok3 ex3 gx3] at q
        refine ⟨sV x3, by rw [ev2]; exact ⟨t2, rfl⟩, fun p ob uk rk hp oc od _ y10 l11 => ?_⟩
        obtain ⟨n, od⟩ := od
        have sn := same_new (o := .frz ob (.tup [tokV m.1.tok, sV x, sV x3])) hp
        have n30 : tokB m3.1.tok ≠ some [] := by
          rw [ex3]
          intro z
          cases z
          exact absurd gx3 (by decide)
        exact q (f2 x x3) _ rfl (i + 3) _ p _ rfl (more3 n30) (rd3.same sn) (((bt1.trans bt2).trans bt3).trans (.of sn)) ((hat _ _ _ _).mpr ⟨ob, uk, t1, t2, n, upd_same, oc, by rw [od, ev1, ev2], Nat.ne_of_gt p1.1, Nat.ne_of_gt p2.1, Nat.ne_of_lt p12⟩) (by omega)
      · rw [if_neg n3, letters_bad tok3 bad] at o
        exact (o ⟨3, m3.1.place⟩ rfl).mono (bt1.trans bt2)
    · have lo := letters_bad (r := (tl.map (·.1)).drop (i + 1 + 1)) tok2 bad
      show Except.bind (takeLetters _) _ = _; rw [lo]; rfl
  intro y5 l5
  refine ⟨_, rfl, (show V.str "skip" = sV (word "skip") from by decide +kernel) ▸ scal_w _ _, ?_⟩
  rw [show decide (tokV m.1.tok = V.str (Str.ofString "skip")) = decide (tokB m.1.tok = some (word "skip")) from (show (V.str (Str.ofString "skip") : V) = sV (word "skip") by decide +kernel) ▸ tokV_w _ _]
  refine ⟨_, rfl, if_2 (fun k => ?_) fun k4 => ?_⟩
  · have e : tokB m.1.tok = some (word "skip") := by simpa using k
    obtain ⟨m2, hm2⟩ := rd.next hm (by rw [e]; decide)
    obtain ⟨tok2, hd2, rel2, more2⟩ := rd1.tok hm2
    rw [takeDeed_word tok e] at q o
    rw [hd2] at q o
    refine ⟨_, rfl, _, rfl, r, dx1, _, rfl, ho1, rfl, r, D, i + 1, 1, 9, tl, m2, rfl, rd1, hm2, fun n en h1 h2 H2 rd2 bt2 => ⟨sz2, fun p hp u y6 l6 ru => ?_⟩, fun n en h => (o ⟨7, m2.1.place⟩ ?_).mono bt1, fun h => (o ⟨3, m2.1.place⟩ ?_).mono bt1⟩
    · cases (show u = Value.ref p from ru)
      have s2 := same_new (o := .tup [tokV m.1.tok, nV n]) hp
      refine q (.skip n) _ (by show Except.map _ (takeNum _ _ _) = _; rw [num_ok en h1 h2]; rfl) (i + 2) _ p _ rfl (more2 (by rw [en]; intro z; cases z)) (rd2.same s2) ((bt1.trans bt2).trans (.of s2)) ?_ (by omega)
      show upd _ _ _ p = _
      rw [upd_same, word_is (s := "skip") e tv]
    · show Except.map _ (takeNum _ _ _) = _; rw [num_7 en h]; rfl
    · show Except.map _ (takeNum _ _ _) = _; rw [num_3 h]; rfl
  have k4 : tokB m.1.tok ≠ some (word "skip") := by simpa using k4
  intro y6 l6
  refine ⟨_, rfl, ?_⟩
  refine raiseF T ((o ⟨3, m.1.place⟩ ?_).mono bt1).out
  cases e : tokB m.1.tok with
  | none => rw [takeDeed_num tok e]; rfl
  | some b =>
    rw [takeDeed_word tok e]
    have n1 := isIn_false k1 e
    have n2 := isIn_false k2 e
    have n3 := isIn_false k3 e
    unfold deedOf
    rw [if_neg (fun z => n1 (by rw [z]; decide)), if_neg (fun z => n2 (by rw [z]; decide)), if_neg (fun z => n2 (by rw [z]; decide)), if_neg (fun z => n2 (by rw [z]; decide)), if_neg (fun z => n3 (by rw [z]; decide)), if_neg (fun z => n3 (by rw [z]; decide)), if_neg (fun z => n1 (by rw [z]; decide)), if_neg (fun z => n1 (by rw [z]; decide)), if_neg (fun z => n1 (by rw [z]; decide)), if_neg (fun z => k4 (by rw [e, z])), if_neg (fun z => n1 (by rw [z]; decide))]
    rfl
end
end Lp
/-! What is read gets shorter; the commands one by one. -/
namespace Lp
open VasedBase Vaseda
theorem bind_ok {E A B : Type} {x : Except E A} {f : A → Except E B} {y : B} (h : x.bind f = .ok y) : ∃ a, x = .ok a ∧ f a = .ok y := by
  cases x with
  | error e => cases h
  | ok a => exact ⟨a, rfl, h⟩
theorem drop1_le {α : Type} (l : List α) : (l.drop 1).length ≤ l.length := by rw [List.length_drop]; omega
theorem letters_le {l : Toks} {x : Bytes × Toks} (h : takeLetters l = .ok x) : x.2.length ≤ l.length := by
  unfold takeLetters at h
  obtain ⟨y, e, rfl⟩ := map_ok h
  unfold takeName at e
  split at e
  · split at e
    · cases e
    · cases e; simp
  · cases e
theorem num_le {lo hi : Nat} {l : Toks} {x : Nat × Toks} (h : takeNum lo hi l = .ok x) : x.2.length ≤ l.length := by
  unfold takeNum at h
  split at h
  · split at h
    · cases h
    · cases h; simp
  · cases h
theorem taken_lt {t : Tok} {l l' : Toks} (h : taken t l = .ok l') : l'.length < l.length := by
  unfold taken at h
  split at h
  · rename_i hn
    cases h
    cases l with
    | nil => cases hn
    | cons m r => simp
  · cases h
theorem addr_le : ∀ (f n : Nat) (l : Toks) (x : Addr × Toks), takeAddr f n l = .ok x → x.2.length ≤ l.length
  | 0, _, _, _, h => by cases h
  | f + 1, n, l, x, h => by
    have d := drop1_le l
    unfold takeAddr at h
    split at h
    · cases h; exact d
    split at h
    · obtain ⟨y, e, rfl⟩ := map_ok h
      exact Nat.le_trans (num_le e) d
    split at h
    · obtain ⟨y, e, h⟩ := bind_ok h
      obtain ⟨y2, e2, h⟩ := bind_ok h
      obtain ⟨y3, e3, rfl⟩ := map_ok h
      have := num_le e; have := taken_lt e2; have := num_le e3
      dsimp only at *
      omega
    split at h
    · cases h; exact d
    split at h
    · obtain ⟨y, e, rfl⟩ := map_ok h
      exact Nat.le_trans (letters_le e) d
    split at h
    · obtain ⟨y, e, rfl⟩ := map_ok h
      exact Nat.le_trans (letters_le e) d
    split at h
    · split at h
      · cases h
      · obtain ⟨y, e, rfl⟩ := map_ok h
        exact Nat.le_trans (addr_le f _ _ y e) d
    · cases h
theorem two_le {f : Bytes → Bytes → Deed} {l : Toks} {x : Deed × Toks} (h : takeTwo f l = .ok x) : x.2.length ≤ l.length := by
  unfold takeTwo at h
  obtain ⟨y, e, h⟩ := bind_ok h
  obtain ⟨y2, e2, rfl⟩ := map_ok h
  have h1 := letters_le e
  unfold takeInstead at e2
  split at e2
  · cases e2
    exact Nat.le_trans (drop1_le _) h1
  · exact Nat.le_trans (letters_le e2) h1
theorem deed_le {l : Toks} {x : Deed × Toks} (h : takeDeed l = .ok x) : x.2.length ≤ l.length := by
  have d := drop1_le l
  unfold takeDeed at h
  dsimp only at h
  have viaL : ∀ {g : Bytes × Toks → Deed × Toks}, (∀ y, (g y).2 = y.2) → (takeLetters (l.drop 1)).map g = .ok x → x.2.length ≤ l.length := fun {g} hg h => by
    obtain ⟨y, e, rfl⟩ := map_ok h
    rw [hg]
    exact Nat.le_trans (letters_le e) d
  split at h
  · cases h; exact d
  split at h
  · exact viaL (fun _ => rfl) h
  split at h
  · exact viaL (fun _ => rfl) h
  split at h
  · exact viaL (fun _ => rfl) h
  split at h
  · exact Nat.le_trans (two_le h) d
  split at h
  · exact Nat.le_trans (two_le h) d
  split at h
  · cases h; exact d
  split at h
  · cases h; exact d
  split at h
  · cases h; exact d
  split at h
  · obtain ⟨y, e, rfl⟩ := map_ok h
    exact Nat.le_trans (num_le e) d
  split at h
  · cases h; exact d
  · cases h
theorem cmd_lt {l : Toks} {x : Cmd × Toks} (h : takeCmd l = .ok x) : x.2.length < l.length := by
  unfold takeCmd at h
  obtain ⟨a, ea, h⟩ := bind_ok h
  obtain ⟨d, ed, h⟩ := bind_ok h
  obtain ⟨m, em, rfl⟩ := map_ok h
  have h1 : a.2.length ≤ l.length := by
    split at ea
    · exact Nat.le_trans (addr_le _ _ _ _ ea) (drop1_le l)
    · cases ea; exact Nat.le_refl _
  have h2 := deed_le ed
  have h3 : m.length < d.2.length := taken_lt em
  dsimp only
  omega
/-- what is read of a script, cs being read -/
structure CmdsSt (F : Except Fault Script) (cs : Script) (l : Toks) : Prop where
  ex : ∃ n, l.length < n ∧ F = takeCmds n cs l
theorem cmdsSt_start {l : Toks} : CmdsSt (takeCmds (l.length + 1) [] l) [] l := ⟨_, Nat.lt_succ_self _, rfl⟩
theorem cmdsSt_end {F : Except Fault Script} {cs : Script} {m : PTok} {r : Toks} (s : CmdsSt F cs (m :: r)) (k : tokOk m.tok) (h : tokB m.tok = some []) : F = .ok cs := by
  obtain ⟨n, hn, e⟩ := s.ex
  obtain ⟨n, rfl⟩ : ∃ j, n = j + 1 := ⟨n - 1, by omega⟩
  rw [e]
  unfold takeCmds
  rw [nextLast k, if_pos (by simpa using h)]
theorem cmdsSt_many {F : Except Fault Script} {cs : Script} {m : PTok} {r : Toks} (s : CmdsSt F cs (m :: r)) (k : tokOk m.tok) (h : tokB m.tok ≠ some []) (hc : 16 ≤ cs.length) : F = .error ⟨4, m.place⟩ := by
  obtain ⟨n, hn, e⟩ := s.ex
  obtain ⟨n, rfl⟩ : ∃ j, n = j + 1 := ⟨n - 1, by omega⟩
  rw [e]
  unfold takeCmds
  rw [nextLast k, if_neg (by simpa using h), if_pos (show CMDS ≤ cs.length from hc)]
  rfl
theorem cmdsSt_step {F : Except Fault Script} {cs : Script} {m : PTok} {r l' : Toks} {c : Cmd} (s : CmdsSt F cs (m :: r)) (k : tokOk m.tok) (h : tokB m.tok ≠ some []) (hc : cs.length < 16) (e1 : takeCmd (m :: r) = .ok (c, l')) : CmdsSt F (cs ++ [c]) l' := by
  obtain ⟨n, hn, e⟩ := s.ex
  obtain ⟨n, rfl⟩ : ∃ j, n = j + 1 := ⟨n - 1, by omega⟩
  have lt := cmd_lt e1
  dsimp only at lt
  refine ⟨n, by omega, ?_⟩
  rw [e]
  conv => lhs; unfold takeCmds
  rw [nextLast k, if_neg (by simpa using h), if_neg (by unfold CMDS; omega), e1]
  rfl
theorem cmdsSt_bad {F : Except Fault Script} {cs : Script} {m : PTok} {r : Toks} {f : Fault} (s : CmdsSt F cs (m :: r)) (k : tokOk m.tok) (h : tokB m.tok ≠ some []) (hc : cs.length < 16) (e1 : takeCmd (m :: r) = .error f) : F = .error f := by
  obtain ⟨n, hn, e⟩ := s.ex
  obtain ⟨n, rfl⟩ : ∃ j, n = j + 1 := ⟨n - 1, by omega⟩
  rw [e]
  unfold takeCmds
  rw [nextLast k, if_neg (by simpa using h), if_neg (by unfold CMDS; omega), e1]
  rfl
theorem takeCmd_if {m : PTok} {r : Toks} (k : tokOk m.tok) (h : tokB m.tok = some (word "if")) : takeCmd (m :: r) = (takeAddr ((m :: r).length + 1) 0 r).bind fun a => (takeDeed a.2).bind fun d => (takeSign 59 d.2).map fun l => (⟨a.1, d.1⟩, l) := by
  unfold takeCmd
  rw [nextW k, if_pos (by simpa using h)]
  rfl
theorem takeCmd_all {m : PTok} {r : Toks} (k : tokOk m.tok) (h : tokB m.tok ≠ some (word "if")) : takeCmd (m :: r) = (takeDeed (m :: r)).bind fun d => (takeSign 59 d.2).map fun l => (⟨.all, d.1⟩, l) := by
  unfold takeCmd
  rw [nextW k, if_neg (by simpa using h)]
  rfl
theorem takeAddr_fuel : ∀ (f g n : Nat) (l : Toks), l.length < f → l.length < g → takeAddr f n l = takeAddr g n l
  | 0, _, _, _, h, _ => absurd h (Nat.not_lt_zero _)
  | _ + 1, 0, _, _, _, h => absurd h (Nat.not_lt_zero _)
  | f + 1, g + 1, n, [], _, _ => by
    have e : ∀ f, takeAddr (f + 1) n [] = wrong [] := fun f => rfl
    rw [e, e]
  | f + 1, g + 1, n, m :: r, h1, h2 => by
    rw [List.length_cons] at h1 h2
    have ih := takeAddr_fuel f g (n + 1) r (by omega) (by omega)
    conv => lhs; unfold takeAddr
    conv => rhs; unfold takeAddr
    rw [show (m :: r).drop 1 = r from rfl, ih]
end Lp
set_option maxRecDepth 100000
set_option maxHeartbeats 2000000
namespace Lp
open PySem PySem.Spec PyProof.Rows L2
open VasedBase (Bytes PTok Toks tokens word Fault RESERVED)
open Vasedc (tellable)
open Vaseda (takeLetters takeNum takeDeed takeInstead takeTwo takeAddr takeCmd takeCmds Cmd Script)
theorem RdAt.keepT {A : Ad} {H H' : Hp} {r D : Addr} {i : Nat} {tl : TL} (k : RdAt A H r i D tl) (e : But r H H') : KeepT H H' := by
  obtain ⟨dx, ho⟩ := k.obj
  exact fun a vs h => e a _ (ne_of h ho (by intro z; cases z)) h
theorem RdAt.keepF {A : Ad} {H H' : Hp} {r D : Addr} {i : Nat} {tl : TL} (k : RdAt A H r i D tl) (e : But r H H') : KeepF H H' := by
  refine ⟨k.keepT e, ?_⟩
  obtain ⟨dx, ho⟩ := k.obj
  exact fun a o vs h => e a _ (ne_of h ho (by intro z; cases z)) h
theorem KeepF.of {H H' : Hp} (e : Same H H') : KeepF H H' := ⟨.of e, fun a o vs h => e a _ h⟩
theorem with_all3 {α β γ : Type} {A O : α → β → γ → Prop} {G : Prop} (h : (∀ x y z, A x y z → O x y z) → G) (r : ∀ x y z, A x y z → O x y z) : G := h r
section
variable {P : Program} {w : World} {K : PySem.W.Frag} {mg : Str → Option Value} {base : Heap} {A : Ad}
def spReadAddr (A : Ad) : Sp := fun vs H Q E => ∃ (r D : Addr) (i : Nat) (tl : TL) (m : PTok × Value), vs = [.ref r] ∧ RdAt A H r i D tl ∧ tl[i]? = some m ∧
  (∀ a l', takeAddr (((tl.map (·.1)).drop i).length + 1) 0 ((tl.map (·.1)).drop i) = .ok (a, l') → ∀ i' H' v, l' = (tl.map (·.1)).drop i' → i' < tl.length → RdAt A H' r i' D tl → But r H H' → AddrAt H' a v → Q (.ref v) H') ∧
  (∀ f, takeAddr (((tl.map (·.1)).drop i).length + 1) 0 ((tl.map (·.1)).drop i) = .error f → OutR A E r H f)
abbrev N_read_address : List Str := ["reader", "nots", "address", "turn"]
theorem sc_read_address : FnScope N_read_address ["reader"] (defScope (top 77)) := ⟨rfl, rfl, rfl, by decide +kernel, rfl, by decide +kernel, by decide +kernel⟩
theorem k_read_address (T : Txt K mg A) : Ok P w K mg base 5 "read_address" (spReadAddr A) := by
  refine ok_mk T.d_read_address sc_read_address (fun vs H Q E ⟨_, _, _, _, _, e, _⟩ => by rw [e]; rfl) fun f cdv AA outer s H vs Q E hr tk po h => ⟨_, (pss_cons (ps_set (i := 1) sc_read_address.nd rfl (Or.inl rfl) pe_int)
    (pss_cons (ps_while po (pt_cmpR op_eq (pe_val (pe_m0 (mo_following T) T.q_Reader.cl hr tk (pv 0))) pe_str (nomark _)) (pss_cons (ps_if (pt_cmpR op_eq (pv 1) (pe_gv T.c_MOST_NOTS) (nomark _)) (pss_one (ps_raise rfl tk (pmk_ex (xk_Fault T) hr (pa_cons pe_int (pa_cons (pe_plc (pe_m0 (mo_following T) T.q_Reader.cl hr tk (pv 0))) pa_nil))))) pss_nil)
    (pss_cons (ps_expr (pe_m0 (mo_take T) T.q_Reader.cl hr tk (pv 0)))
    (pss_one (ps_aug (i := 1) sc_read_address.nd rfl (.inl rfl) pe_int ip_add)))))
    (pss_cons (ps_set (i := 2) sc_read_address.nd rfl (Or.inl rfl) (pe_k (k_read_plain_address T) hr tk (pa_cons (pv 0) pa_nil)))
    (pss_cons (ps_for po rfl (pi_range1 rfl T.b_range (pa_cons (pv 1) pa_nil)) (pg_name (i := 3) sc_read_address.nd rfl (Or.inl rfl)) (pss_one (ps_set (i := 2) sc_read_address.nd rfl (Or.inl rfl) (pe_tup (pa_cons pe_str (pa_cons (pv 2) pa_nil))))))
    (pss_one (ps_ret (pv 2))))))), ?_⟩
  obtain ⟨r, D, i, tl, m, rfl, rd, hm, q, o⟩ := h
  generalize hF : ((tl.map (·.1)).drop i).length + 1 = F at q o
  have st0 : AddrSt F ((tl.map (·.1)).drop i) F 0 ((tl.map (·.1)).drop i) := hF ▸ addrSt_start
  obtain ⟨l0, e0⟩ : ∃ l0, l0 = (tl.map (·.1)).drop i := ⟨_, rfl⟩
  rw [← e0] at q o
  have st0 : AddrSt F l0 F 0 ((tl.map (·.1)).drop i) := by rw [e0]; exact st0
  refine ⟨fun n σ G => ∃ (c i1 f : Nat) (m1 : PTok × Value), σ = [some (.ref r), some (nV c), none, none] ∧ n = tl.length - i1 ∧ RdAt A G r i1 D tl ∧ tl[i1]? = some m1 ∧ But r H G ∧ c ≤ 3 ∧ AddrSt F l0 f c ((tl.map (·.1)).drop i1), ⟨_, 0, i, F, m, rfl, rfl, rd, hm, .refl _ _, Nat.zero_le _, st0⟩, ?_⟩
  rintro n σ G ⟨c, i1, f1, m1, rfl, rfl, rd1, hm1, bt1, hc, st⟩
  obtain ⟨dx1, ho1⟩ := rd1.obj
  obtain ⟨tok1, hd1, rel1, more1⟩ := rd1.tok hm1
  rw [hd1] at st
  refine ⟨_, rfl, r, dx1, _, rfl, ho1, rfl, r, D, i1, tl, m1, rfl, rd1, hm1, fun a ha => ?_⟩
  refine ⟨a, A.to, _, _, tokV m1.1.tok, rfl, ha, T.q_Token.cl, T.q_Token.no _ (by decide), rel1, ?_⟩
  refine ⟨(show V.str "not" = sV (word "not") from by decide +kernel) ▸ scal_w _ _, ?_⟩
  rw [show decide (tokV m1.1.tok = V.str (Str.ofString "not")) = decide (tokB m1.1.tok = some (word "not")) from (show (V.str (Str.ofString "not") : V) = sV (word "not") by decide +kernel) ▸ tokV_w _ _]
  refine ⟨_, rfl, if_2 (fun k => ?_) fun k => ?_⟩
  · have k : tokB m1.1.tok = some (word "not") := by simpa using k
    refine ⟨fun σ' G' => ∃ (f2 : Nat) (m2 : PTok × Value), σ' = [some (.ref r), some (nV (c + 1)), none, none] ∧ RdAt A G' r (i1 + 1) D tl ∧ tl[i1 + 1]? = some m2 ∧ But r H G' ∧ c + 1 ≤ 3 ∧ AddrSt F l0 f2 (c + 1) ((tl.map (·.1)).drop (i1 + 1)), ?_, ?_⟩
    · rintro σ' G' ⟨f2, m2, rfl, rd2, hm2, bt2, hc2, st2⟩
      have := get_lt hm2
      exact ⟨tl.length - (i1 + 1), by omega, c + 1, i1 + 1, f2, m2, rfl, rfl, rd2, hm2, bt2, hc2, st2⟩
    · refine ⟨_, rfl, rfl, _, rfl, if_2 (fun k3 => ?_) fun k3 => ?_⟩
      · have k3 : c = 3 := by have := V.int.inj (of_decide_eq_true k3); omega
        refine ⟨_, rfl, r, dx1, _, rfl, ho1, rfl, r, D, i1, tl, m1, rfl, rd1, hm1, fun a2 ha2 => ?_⟩
        exact ⟨a2, A.to, _, _, rfl, ha2, T.q_Token.cl, T.q_Token.no _ (by decide), raiseF T ((o ⟨4, m1.1.place⟩ (addrSt_many st tok1 k (by omega))).mono bt1).out⟩
      · have k3 : c ≠ 3 := fun z => of_decide_eq_false k3 (by rw [z]; rfl)
        obtain ⟨m2, hm2⟩ := rd1.next hm1 (by rw [k]; decide)
        refine ⟨_, rfl, r, dx1, _, rfl, ho1, rfl, r, D, i1, tl, m1, rfl, rd1, hm1, fun G2 rd2 bt2 => ?_⟩
        exact ⟨_, rfl, _, _, rfl, rfl, f1 - 1, m2, rfl, rd2, hm2, bt1.trans bt2, by omega, addrSt_not st tok1 k (by omega)⟩
  · have k : tokB m1.1.tok ≠ some (word "not") := by simpa using k
    have ep := addrSt_plain st tok1 k
    refine ⟨_, rfl, r, D, i1, tl, m1, rfl, rd1, hm1, fun a l' el i' G2 v ei hi rd2 bt2 av => ?_, fun f ef => (o f ?_).mono bt1⟩
    · rw [hd1] at el
      rw [el] at ep
      refine ⟨_, rfl, _, rfl, by omega, by omega, ?_⟩
      rw [show ((c : Int)).toNat = c from Int.toNat_natCast c]
      refine for_range (lo := 0) (n := c) (fun j σ G' => ∃ (v' : Addr) (tn : Option V), σ = [some (.ref r), some (nV c), some (.ref v'), tn] ∧ RdAt A G' r i' D tl ∧ But r H G' ∧ AddrAt G' (notN j a) v') ⟨v, none, rfl, rd2, bt1.trans bt2, av⟩ ?_ ?_
      · rintro j σ G' hj ⟨v', tn, rfl, rd3, bt3, av'⟩
        refine ⟨_, rfl, sz2, fun p hp => ?_⟩
        have sn := same_new (o := .tup [.str "not", .ref v']) hp
        exact ⟨p, _, rfl, rd3.same sn, bt3.trans (.of sn), v', upd_same, av'.keep (.of sn)⟩
      · rintro σ G' ⟨v', tn, rfl, rd3, bt3, av'⟩
        exact ⟨_, rfl, q (notN c a) l' ep i' G' v' ei hi rd3 bt3 av'⟩
    · rw [hd1] at ef
      rw [ep, ef]; rfl
def spIniReader (A : Ad) : Sp := fun vs H Q _ => ∃ (c dx D : Addr), vs = [.ref c, .ref D] ∧ H c = some (.ins A.rd dx []) ∧ Q .non (upd H c (.ins A.rd dx [("tokens", .ref D), ("taken", .int 0)]))
abbrev N_Reader___init__ : List Str := ["self", "tokens"]
theorem sc_Reader___init__ : FnScope N_Reader___init__ ["self", "tokens"] (defScope (inClass (top 74) 0)) := ⟨rfl, rfl, rfl, by decide +kernel, rfl, by decide +kernel, by decide +kernel⟩
theorem mk_Reader (T : Txt K mg A) : KOk P w K mg base 1 "Reader" A.rd (spIniReader A) := by
  obtain ⟨f, fd, F, hm, b⟩ := T.i_Reader.ex
  refine ⟨f, fd, _, fn_mk F sc_Reader___init__ (fun vs H Q E ⟨_, _, _, e, _⟩ => by rw [e]; rfl) fun cdv AA outer s H vs Q E hr tk po h => ⟨_, (pss_cons (ps_fld (pv 0) (pv 1) rfl)
    (pss_one (ps_fld (pv 0) pe_int rfl))), ?_⟩, hm, b, T.q_Reader.gC⟩
  obtain ⟨c, dx, D, rfl, hc, q⟩ := h
  refine ⟨_, rfl, _, rfl, c, _, dx, _, rfl, hc, T.q_Reader.cl, T.q_Reader.no _ (by decide), by decide, ?_⟩
  refine ⟨_, rfl, c, _, dx, _, rfl, upd_same, T.q_Reader.cl, T.q_Reader.no _ (by decide), by show 1 < 1000; decide, ?_⟩
  rw [upd_upd]
  exact q
def spIniCommand (A : Ad) : Sp := fun vs H Q _ => ∃ (c dx : Addr) (x y : V), vs = [.ref c, x, y] ∧ H c = some (.ins A.co dx []) ∧ Q .non (upd H c (.ins A.co dx [("address", x), ("deed", y)]))
abbrev N_Command___init__ : List Str := ["self", "address", "deed"]
theorem sc_Command___init__ : FnScope N_Command___init__ ["self", "address", "deed"] (defScope (inClass (top 73) 0)) := ⟨rfl, rfl, rfl, by decide +kernel, rfl, by decide +kernel, by decide +kernel⟩
theorem mk_Command (T : Txt K mg A) : KOk P w K mg base 1 "Command" A.co (spIniCommand A) := by
  obtain ⟨f, fd, F, hm, b⟩ := T.i_Command.ex
  refine ⟨f, fd, _, fn_mk F sc_Command___init__ (fun vs H Q E ⟨_, _, _, _, e, _⟩ => by rw [e]; rfl) fun cdv AA outer s H vs Q E hr tk po h => ⟨_, (pss_cons (ps_fld (pv 0) (pv 1) rfl)
    (pss_one (ps_fld (pv 0) (pv 2) rfl))), ?_⟩, hm, b, T.q_Command.gC⟩
  obtain ⟨c, dx, x, y, rfl, hc, q⟩ := h
  refine ⟨_, rfl, _, rfl, c, _, dx, _, rfl, hc, T.q_Command.cl, T.q_Command.no _ (by decide), by decide, ?_⟩
  refine ⟨_, rfl, _, rfl, c, _, dx, _, rfl, upd_same, T.q_Command.cl, T.q_Command.no _ (by decide), by show 1 < 1000; decide, ?_⟩
  rw [upd_upd]
  exact q
/-- a command as the program holds it -/
def CmdAt (A : Ad) (H : Hp) (c : Addr) (cmd : Cmd) : Prop := ∃ dx va vd, H c = some (.ins A.co dx [("address", .ref va), ("deed", .ref vd)]) ∧ AddrAt H cmd.a va ∧ DeedAt H cmd.d vd
theorem CmdAt.same {H H' : Hp} {c : Addr} {cmd : Cmd} (k : CmdAt A H c cmd) (e : Same H H') : CmdAt A H' c cmd := by
  obtain ⟨dx, va, vd, h, h1, h2⟩ := k
  exact ⟨dx, va, vd, e _ _ h, h1.keep (.of e), h2.keep (.of e)⟩
def spCmdR (A : Ad) : SpR := fun vs H z Q E => ∃ (r D : Addr) (i U : Nat) (tl : TL) (m : PTok × Value), vs = [.ref r] ∧ RdAt A H r i D tl ∧ tl[i]? = some m ∧ Sep U tl ∧ U ≤ z.toks ∧
  (∀ c l', takeCmd ((tl.map (·.1)).drop i) = .ok (c, l') → ∀ i' H' v (y : Shared), l' = (tl.map (·.1)).drop i' → i' < tl.length → RdAt A H' r i' D tl → But r H H' → CmdAt A H' v c → z.toks ≤ y.toks → Q (.ref v) H' y) ∧ (∀ f, takeCmd ((tl.map (·.1)).drop i) = .error f → OutR A E r H f)
end
end Lp
set_option maxRecDepth 100000
set_option maxHeartbeats 2000000
namespace Lp
open PySem PySem.Spec PyProof.Rows L2
open VasedBase (Bytes PTok Toks tokens word Fault RESERVED takeSign)
open Vaseda (takeDeed takeAddr takeCmd takeCmds Cmd Script)
section
variable {P : Program} {w : World} {K : PySem.W.Frag} {mg : Str → Option Value} {base : Heap} {A : Ad}
abbrev N_read_command : List Str := ["reader", "address", "deed"]
theorem sc_read_command : FnScope N_read_command ["reader"] (defScope (top 76)) := ⟨rfl, rfl, rfl, by decide +kernel, rfl, by decide +kernel, by decide +kernel⟩
theorem k_read_command (T : Txt K mg A) : OkR P w K mg base 6 "read_command" (spCmdR A) := by
  refine okr_mk T.d_read_command sc_read_command (fun vs H z Q E ⟨_, _, _, _, _, _, e, _⟩ => by rw [e]; rfl) fun f cdv AA outer z H vs Q E hr tk po h => ⟨_, (pssr_cons (psr_up (ps_set (i := 1) sc_read_command.nd rfl (Or.inl rfl) (pe_tup (pa_cons pe_str pa_nil))))
    (pssr_cons (psr_up (ps_if (pt_cmpR op_eq (pe_val (pe_m0 (mo_following T) T.q_Reader.cl hr tk (pv 0))) pe_str (nomark _)) (pss_cons (ps_expr (pe_m0 (mo_take T) T.q_Reader.cl hr tk (pv 0)))
    (pss_one (ps_set (i := 1) sc_read_command.nd rfl (Or.inl rfl) (pe_k (k_read_address T) hr tk (pa_cons (pv 0) pa_nil))))) pss_nil))
    (pssr_cons (psr_set (i := 2) sc_read_command.nd rfl rfl (pr_k (k_read_deed T) hr tk (par_up (pa_cons (pv 0) pa_nil))))
    (pssr_cons (psr_up (ps_expr (pe_m (mo_take_just T) T.q_Reader.cl hr tk (pv 0) (pa_cons (pe_gv T.c_SIGN) pa_nil))))
    (pssr_one (psr_up (ps_ret (pe_mk (mk_Command T) hr tk (pa_cons (pv 1) (pa_cons (pv 2) pa_nil)))))))))), fun y le => ?_⟩
  obtain ⟨r, D, i, U, tl, m, rfl, rd, hm, sep, hU, q, o⟩ := h
  obtain ⟨tok, hd, rel, more⟩ := rd.tok hm
  rw [hd] at q o
  refine ⟨sz1, fun p0 hp0 y1 l1 => ?_⟩
  have s0 := same_new (o := .tup [.str "all"]) hp0
  have rd0 := rd.same s0
  obtain ⟨dx, ho⟩ := rd0.obj
  refine ⟨_, rfl, r, dx, _, rfl, ho, rfl, r, D, i, tl, m, rfl, rd0, hm, fun a ha => ?_⟩
  refine ⟨a, A.to, _, _, tokV m.1.tok, rfl, ha, T.q_Token.cl, T.q_Token.no _ (by decide), rel, ?_⟩
  refine ⟨(show V.str "if" = sV (word "if") from by decide +kernel) ▸ scal_w _ _, ?_⟩
  rw [show decide (tokV m.1.tok = V.str (Str.ofString "if")) = decide (tokB m.1.tok = some (word "if")) from (show (V.str (Str.ofString "if") : V) = sV (word "if") by decide +kernel) ▸ tokV_w _ _]
  refine ⟨_, rfl, ?_⟩
  refine with_all3 (A := fun (H1 : Hp) (va : Addr) (yy : Shared) => ∃ a i1 m1, RdAt A H1 r i1 D tl ∧ tl[i1]? = some m1 ∧ But r H H1 ∧ AddrAt H1 a va ∧ z.toks ≤ yy.toks ∧ takeCmd (m.1 :: (tl.map (·.1)).drop (i + 1)) = (takeDeed ((tl.map (·.1)).drop i1)).bind fun d => (takeSign 59 d.2).map fun l => (⟨a, d.1⟩, l)) (O := ?O) (fun rest => if_2 (fun k => ?_) fun k => ?_) fun H1 va yy hA => ?_
  rotate_left
  · have k : tokB m.1.tok = some (word "if") := by simpa using k
    obtain ⟨m2, hm2⟩ := rd.next hm (by rw [k]; decide)
    have tc := takeCmd_if (r := (tl.map (·.1)).drop (i + 1)) tok k
    rw [takeAddr_fuel _ (((tl.map (·.1)).drop (i + 1)).length + 1) _ _ (by rw [List.length_cons]; omega) (Nat.lt_succ_self _)] at tc
    refine ⟨_, rfl, r, dx, _, rfl, ho, rfl, r, D, i, tl, m, rfl, rd0, hm, fun G1 rd1 bt1 => ?_⟩
    refine ⟨_, rfl, r, D, i + 1, tl, m2, rfl, rd1, hm2, fun a l' ea i1 H1 va el hi rd2 bt2 av yy lyy => ?_, fun f ef => ?_⟩
    · refine rest H1 va yy ?_
      obtain ⟨m1, hm1⟩ := get_of_lt hi
      refine ⟨a, i1, m1, rd2, hm1, (But.of s0).trans (bt1.trans bt2), av, by omega, ?_⟩
      rw [tc, ea, el]; rfl
    · rw [ef] at tc
      exact (o f (tc.trans rfl)).mono ((But.of s0).trans bt1)
  · have k : tokB m.1.tok ≠ some (word "if") := by simpa using k
    intro yy lyy
    refine rest _ p0 yy ⟨.all, i, m, rd0, hm, .of s0, upd_same, by omega, ?_⟩
    rw [takeCmd_all tok k, hd]
  · obtain ⟨a1, i1, m1, rd1, hm1, bt1, av, lyy, tc⟩ := hA
    rw [tc] at q o
    refine ⟨_, rfl, fun us y2 l2 hv => ⟨_, hv, r, D, i1, U, tl, m1, rfl, rd1, hm1, sep, by omega, fun d l' ed i2 H2 vd y3 el2 hi2 rd2 bt2 dat l3 l4 => ⟨.ref vd, rfl, fun y4 l5 => ?_⟩, fun f ef => (o f (by rw [ef]; rfl)).mono bt1⟩⟩
    rw [ed] at q o
    obtain ⟨dx2, ho2⟩ := rd2.obj
    obtain ⟨m2, hm2⟩ := get_of_lt hi2
    obtain ⟨tok2, hd2, rel2, more2⟩ := rd2.tok hm2
    subst el2
    have q : ∀ c l', Except.map (fun l => ((⟨a1, d⟩ : Cmd), l)) (takeSign 59 ((tl.map (·.1)).drop i2)) = .ok (c, l') → _ := q
    have o : ∀ f, Except.map (fun l => ((⟨a1, d⟩ : Cmd), l)) (takeSign 59 ((tl.map (·.1)).drop i2)) = .error f → _ := o
    rw [hd2, takeSign_cons tok2] at q o
    refine ⟨_, rfl, r, dx2, _, rfl, ho2, rfl, r, D, i2, tl, m2, [59], rfl, rd2, hm2, fun e2 H3 v3 rd3 bt3 y5 l6 => ?_, fun n2 => ?_⟩
    · rw [if_pos e2] at q
      refine ⟨_, rfl, _, rfl, fun c dc hc hdc ndc => ?_⟩
      have s3 : Same H3 (upd (upd H3 dc (.own c)) c (.ins A.co dc [])) := same_upd (same_new hdc) hc
      refine ⟨c, dc, _, _, rfl, upd_same, rfl, fun u y6 l7 ru => ?_⟩
      cases (show u = Value.ref c from ru)
      rw [upd_upd]
      have s4 : Same H3 (upd (upd H3 dc (.own c)) c (.ins A.co dc [("address", .ref va), ("deed", .ref vd)])) := same_upd (same_new hdc) hc
      exact q ⟨a1, d⟩ _ rfl (i2 + 1) _ c _ rfl (more2 (by rw [e2]; decide)) (rd3.same s4) ((bt1.trans (bt2.trans bt3)).trans (.of s4)) ⟨dc, va, vd, upd_same, (av.keep (rd1.keepT (bt2.trans bt3))).keep (.of s4), (dat.keep (rd2.keepF bt3)).keep (.of s4)⟩ (by omega)
    · rw [if_neg n2] at o
      exact (o ⟨3, m2.1.place⟩ rfl).mono (bt1.trans bt2)
end
end Lp
set_option maxRecDepth 100000
set_option maxHeartbeats 2000000
namespace Lp
open PySem PySem.Spec PyProof.Rows L2
open VasedBase (Bytes PTok Toks tokens word Fault)
open Vaseda (takeCmd takeCmds Cmd Script)
def tMakeU (C : Addr) (sp : Sp) (E : XK) (t : TAR) : TR := fun σ G z Q => t σ G z fun us G1 y => ∃ vs, Vals vs us ∧ ∀ x dx, G1 x = none → G1 dx = none → dx ≠ x → sp (.ref x :: vs) (upd (upd G1 dx (.own x)) x (.ins C dx [])) (fun v G2 => v = .non ∧ ∃ x', V.ref x = .ref x' ∧ ∀ s : Shared, y.toks ≤ s.toks → Q (.ref x') G2 s) E
theorem pr_mku {X : Cx} {k j : Nat} {x : Str} {C : Addr} {sp : Sp} {E : XK} {p pos : Pos} {e : Expr} {es : List Expr} {t : TAR} (c : KOk X.prog X.w X.K X.mg X.base k x C sp) (hr : Room j X.A) (tk : Takes X fun cls d _ H => E cls d H) (ha : PAR X (e :: es) t) (hk : k + 1 ≤ j := by decide) (hg : Gl X x := by rfl) (hdb : (x == ("__debug__" : Str)) = false := by decide)
    (he : starEach (e :: es) X.env = (false, eval e X.env) :: starEach es X.env := by rfl) (hpl : (backTo pos (starEach es X.env)).any (·.1) = false := by rfl) : PR X (.Call (.Name x p) (e :: es) [] pos) (tMakeU C sp E t) := by
  obtain ⟨f, fd, ps, F, M, b, g⟩ := c.ex
  refine ⟨fun pins z σ G Q I q => wpAny_Call_Name_kw (ld_glob I hg g ?_ hdb)⟩
  exact PySem.W.callWith_K (h₀ := X.base) I.ok.mod.kin M.kp (thn (ha.run pos pins z σ G _ I q) fun us y ⟨G1, J, vs, r, k⟩ => ⟨J.kIn, wp_le (run_make (dvs := []) (ds := []) (Q := fun v G2 => ∃ x, v = .ref x ∧ ∀ s : Shared, y.toks ≤ s.toks → Q (.ref x) G2 s) M F (hr.mono hk) b .nil (passes_call tk fun _ _ _ _ z => z) J r fun x dx h1 h2 h3 => by
    rw [List.append_nil]
    exact k x dx h1 h2 h3) fun u s le ⟨v, G2, J2, rv, x, ev, q2⟩ => ⟨G2, J2, by
      subst ev
      cases (show u = Value.ref x from rv)
      exact q2 s le⟩⟩) he hpl
/-- a script as the program holds it -/
def ScriptAt (A : Ad) (H : Hp) (S : Addr) (s : Script) : Prop := ∃ cs : List Addr, H S = some (.lst (cs.map V.ref)) ∧ AllAt (CmdAt A H) cs s
theorem ScriptAt.same {A : Ad} {H H' : Hp} {S : Addr} {s : Script} (k : ScriptAt A H S s) (e : Same H H') : ScriptAt A H' S s := by
  obtain ⟨cs, h1, h2⟩ := k
  exact ⟨cs, e _ _ h1, h2.mono fun _ _ _ _ q => q.same e⟩
theorem ne_cmd {C C' d d' : Addr} {a b x y : V} : HO.ins C d [("address", a), ("deed", b)] ≠ HO.ins C' d' [("tokens", x), ("taken", y)] := fun z => by
  injection z with _ _ h
  injection h with h _
  injection h with h _
  exact absurd h (by decide)
theorem ScriptAt.but {A : Ad} {H H' : Hp} {S r D : Addr} {i : Nat} {tl : TL} {s : Script} (k : ScriptAt A H S s) (rd : RdAt A H r i D tl) (e : But r H H') : ScriptAt A H' S s := by
  obtain ⟨cs, h1, h2⟩ := k
  obtain ⟨dx, ho⟩ := rd.obj
  refine ⟨cs, e _ _ (ne_of h1 ho (by intro z; cases z)) h1, h2.mono fun c m _ _ q => ?_⟩
  obtain ⟨dc, va, vd, q1, q2, q3⟩ := q
  exact ⟨dc, va, vd, e _ _ (ne_of q1 ho ne_cmd) q1, q2.keep (rd.keepT e), q3.keep (rd.keepF e)⟩
section
variable {P : Program} {w : World} {K : PySem.W.Frag} {mg : Str → Option Value} {base : Heap} {A : Ad}
def spCommandsOf (A : Ad) : Sp := fun vs H Q E => ∃ (a : Addr) (b : Bytes), vs = [.ref a] ∧ H a = some (.lst (b.map iB)) ∧
  (∀ s, Vaseda.read b = .ok s → s.length ≤ 16 → New H Q fun H' S => ScriptAt A H' S s) ∧ (∀ f, Vaseda.read b = .error f → Out E H A.fa [("place", .int (f.place : Int)), ("code", .int (f.code : Int))])
def spCommandsR (A : Ad) : SpR := fun vs H _ Q E => ∃ (a : Addr) (b : Bytes), vs = [.ref a] ∧ H a = some (.lst (b.map iB)) ∧
  (∀ s, Vaseda.read b = .ok s → s.length ≤ 16 → ∀ H' S y, Same H H' → H S = none → ScriptAt A H' S s → Q (.ref S) H' y) ∧ (∀ f, Vaseda.read b = .error f → Out E H A.fa [("place", .int (f.place : Int)), ("code", .int (f.code : Int))])
abbrev N_commands_of : List Str := ["script", "reader", "commands"]
theorem sc_commands_of : FnScope N_commands_of ["script"] (defScope (top 75)) := ⟨rfl, rfl, rfl, by decide +kernel, rfl, by decide +kernel, by decide +kernel⟩
theorem kr_commands_of (T : Txt K mg A) : OkR P w K mg base 7 "commands_of" (spCommandsR A) := by
  refine okr_mk T.d_commands_of sc_commands_of (fun vs H z Q E ⟨_, _, e, _⟩ => by rw [e]; rfl) fun f cdv AA outer z H vs Q E hr tk po h => ⟨_, (pssr_cons (psr_set (i := 1) sc_commands_of.nd rfl rfl (pr_mku (mk_Reader T) hr tk (par_cons (pr_k (k_tokens_of T) hr tk (par_up (pa_cons (pv 0) pa_nil))) par_nil)))
    (pssr_cons (psr_up (ps_set (i := 2) sc_commands_of.nd rfl (Or.inl rfl) (pe_lst pa_nil)))
    (pssr_cons (psr_while po (pt_cmpR op_ne (pe_val (pe_m0 (mo_following T) T.q_Reader.cl hr tk (pv 1))) (pe_gv T.c_END) (nomark _)) (pssr_cons (psr_up (ps_if (pt_cmpR op_eq (pe_len T.b_len (pv 2)) (pe_gv T.c_MOST_COMMANDS) (nomark _)) (pss_one (ps_raise rfl tk (pmk_ex (xk_Fault T) hr (pa_cons pe_int (pa_cons (pe_plc (pe_m0 (mo_following T) T.q_Reader.cl hr tk (pv 1))) pa_nil))))) pss_nil))
    (pssr_one (psr_app (pv 2) (par_cons (pr_k (k_read_command T) hr tk (par_up (pa_cons (pv 1) pa_nil))) par_nil)))))
    (pssr_one (psr_up (ps_ret (pv 2))))))), fun y le => ?_⟩
  obtain ⟨a, b, rfl, ha, q, o⟩ := h
  unfold Vaseda.read at q o
  refine ⟨_, rfl, fun us y1 l1 hv => ⟨_, hv, a, b, rfl, ha, fun ts ets H1 D tl U y2 e1 hD tks em sep hU l2 => ?_, fun f ef => o f (by rw [ef]; rfl)⟩⟩
  rw [ets] at q o
  have q : ∀ s, takeCmds (ts.length + 1) [] ts = .ok s → _ := q
  have o : ∀ f, takeCmds (ts.length + 1) [] ts = .error f → _ := o
  refine ⟨[.ref D], .cons rfl .nil, fun r dr hr0 hdr ndr => ⟨r, dr, D, rfl, upd_same, rfl, r, rfl, fun y3 l3 => ⟨.ref r, rfl, fun y4 l4 => ?_⟩⟩⟩
  rw [upd_upd]
  have tok := VasedBase.tokens b
  have okt : ToksOk (tl.map (·.1)) := em ▸ tokens_ok ets
  have hHr : H r = none := none_back e1 hr0
  have e2 : Same H1 (upd (upd H1 dr (.own r)) r (.ins A.rd dr [("tokens", .ref D), ("taken", nV 0)])) := same_upd (same_new hdr) hr0
  have rd0 : RdAt A (upd (upd H1 dr (.own r)) r (.ins A.rd dr [("tokens", .ref D), ("taken", nV 0)])) r 0 D tl := ⟨⟨dr, upd_same⟩, tks.same e2, okt⟩
  generalize (upd (upd H1 dr (.own r)) r (.ins A.rd dr [("tokens", .ref D), ("taken", nV 0)])) = H2 at rd0 e2
  have e12 := same_trans e1 e2
  refine ⟨Nat.zero_le _, fun S hS y5 l5 => ?_⟩
  have hHS : H S = none := none_back e12 hS
  have tl0 : 0 < tl.length := by
    obtain ⟨_, p, rr, e, _⟩ := okt
    have := congrArg List.length e
    rw [List.length_map, List.length_append, List.length_singleton] at this
    omega
  have nSr : S ≠ r := by
    obtain ⟨dx, ho⟩ := rd0.obj
    intro z
    rw [z, ho] at hS; cases hS
  subst em
  refine ⟨fun n σ G x => ∃ (i : Nat) (cs : Script), σ = [some (.ref a), some (.ref r), some (.ref S)] ∧ n = 17 - cs.length ∧ RdAt A G r i D tl ∧ i < tl.length ∧ ScriptAt A G S cs ∧ CmdsSt (takeCmds ((tl.map (·.1)).length + 1) [] (tl.map (·.1))) cs ((tl.map (·.1)).drop i) ∧ cs.length ≤ 16 ∧ U ≤ x.toks ∧ Same H G,
    ⟨_, 0, [], rfl, rfl, rd0.same (same_new hS), tl0, ⟨[], upd_same, .nil⟩, cmdsSt_start, Nat.zero_le _, by omega, same_upd e12 hHS⟩, ?_⟩
  rintro n σ G x ⟨i, cs, rfl, rfl, rd, hi, sa, st, hc, hU2, eG⟩
  obtain ⟨m, hm⟩ := get_of_lt hi
  obtain ⟨dx, ho⟩ := rd.obj
  obtain ⟨tokm, hd, rel, more⟩ := rd.tok hm
  rw [hd] at st
  refine ⟨_, rfl, r, dx, _, rfl, ho, rfl, r, D, i, tl, m, rfl, rd, hm, fun ta hta => ?_⟩
  refine ⟨ta, A.to, _, _, tokV m.1.tok, rfl, hta, T.q_Token.cl, T.q_Token.no _ (by decide), rel, ?_⟩
  refine ⟨(show V.str "" = sV [] from rfl) ▸ scal_w _ _, ?_⟩
  rw [show decide (tokV m.1.tok = V.str (Str.ofString "")) = decide (tokB m.1.tok = some []) from tokV_w _ []]
  refine ⟨_, rfl, fun y6 l6 => if_2 (fun k => ?_) fun k => ?_⟩
  · have k : tokB m.1.tok ≠ some [] := by simpa using k
    refine ⟨fun σ' G' x' => ∃ (i' : Nat) (c : Cmd), σ' = [some (.ref a), some (.ref r), some (.ref S)] ∧ RdAt A G' r i' D tl ∧ i' < tl.length ∧ ScriptAt A G' S (cs ++ [c]) ∧ CmdsSt (takeCmds ((tl.map (·.1)).length + 1) [] (tl.map (·.1))) (cs ++ [c]) ((tl.map (·.1)).drop i') ∧ cs.length < 16 ∧ U ≤ x'.toks ∧ Same H G', ?_, ?_⟩
    · rintro σ' G' x' ⟨i', c, rfl, rd', hi', sa', st', hc', hU', eG'⟩
      have ll : (cs ++ [c]).length = cs.length + 1 := by rw [List.length_append]; rfl
      exact ⟨17 - (cs ++ [c]).length, by omega, i', cs ++ [c], rfl, rfl, rd', hi', sa', st', by omega, hU', eG'⟩
    · obtain ⟨vs, h1, h2⟩ := id sa
      have vl : (vs.map V.ref).length = cs.length := by rw [List.length_map, h2.len]
      refine ⟨_, rfl, S, _, rfl, SqL.of h1, ?_⟩
      rw [vl]
      refine ⟨rfl, _, rfl, if_2 (fun k2 => ?_) fun k2 => ?_⟩
      · have k2 : cs.length = 16 := by have := V.int.inj (of_decide_eq_true k2); omega
        refine ⟨_, rfl, r, dx, _, rfl, ho, rfl, r, D, i, tl, m, rfl, rd, hm, fun a2 ha2 => ?_⟩
        exact ⟨a2, A.to, _, _, rfl, ha2, T.q_Token.cl, T.q_Token.no _ (by decide), raiseF T ((o ⟨4, m.1.place⟩ (cmdsSt_many st tokm k (by omega))).mono eG)⟩
      · have k2 : cs.length < 16 := by
          have : cs.length ≠ 16 := fun z => of_decide_eq_false k2 (by rw [z]; rfl)
          omega
        intro y7 l7
        refine ⟨_, rfl, ⟨S, _, rfl, h1⟩, fun y8 l8 => ?_⟩
        refine ⟨_, rfl, fun us y9 l9 hv => ⟨_, hv, r, D, i, U, tl, m, rfl, rd, hm, sep, by omega, fun c l' ec i' G1 v yA el hi' rd1 bt1 ca lA lB => ?_, fun f ef => ?_⟩⟩
        · rw [hd] at ec
          obtain ⟨vs1, h11, h21⟩ := sa.but rd bt1
          obtain ⟨dx1, ho1⟩ := rd1.obj
          refine ⟨S, _, .ref v, _, rfl, rfl, rfl, h11, sz_lt (by rw [List.length_map, h21.len]; omega), fun yB lC => ?_⟩
          have kp : KeepF G1 (upd G1 S (.lst (vs1.map V.ref ++ [.ref v]))) := ⟨.upL h11, fun a o xs q => by rw [upd_ne (ne_of q h11 (by intro z; cases z))]; exact q⟩
          have ck : ∀ {c0 : Addr} {cm : Cmd}, CmdAt A G1 c0 cm → CmdAt A (upd G1 S (.lst (vs1.map V.ref ++ [.ref v]))) c0 cm := fun {c0 cm} ⟨dc, va, vd, q1, q2, q3⟩ => ⟨dc, va, vd, by rw [upd_ne (ne_of q1 h11 (by intro z; cases z))]; exact q1, q2.keep kp.1, q3.keep kp⟩
          refine ⟨i', c, rfl, ⟨⟨dx1, by rw [upd_ne nSr.symm]; exact ho1⟩, ?_, rd1.ok⟩, hi', ⟨vs1 ++ [v], by rw [upd_same, List.map_append]; rfl, (h21.mono fun _ _ _ _ q => ck q).snoc (ck ca)⟩, el ▸ cmdsSt_step st tokm k k2 ec, k2, by omega, same_upd (fun b u e => (bt1 b u (ne_of_none e hHr) (eG b u e))) hHS⟩
          obtain ⟨⟨rs, t1, t2⟩, trel⟩ := rd1.tks
          have nDS : D ≠ S := fun z => by
            have := eG
            have hDl := tks
            obtain ⟨⟨rs0, u1, _⟩, _⟩ := tks
            have := e2 _ _ u1
            rw [z, hS] at this; cases this
          refine ⟨⟨rs, by rw [upd_ne nDS]; exact t1, t2.mono fun ra rm _ _ q => ?_⟩, trel⟩
          obtain ⟨d, nd, q1, q2⟩ := q
          exact ⟨d, nd, by rw [upd_ne (ne_of q1 h11 (by intro z; cases z))]; exact q1, by rw [upd_ne (ne_of q2 h11 (by intro z; cases z))]; exact q2⟩
        · rw [hd] at ef
          exact fun H' d bt hx => (o f (cmdsSt_bad st tokm k k2 ef)) H' d (fun b u e => bt b u (ne_of_none e hHr) (eG b u e)) hx
  · have k : tokB m.1.tok = some [] := by simpa using k
    refine ⟨_, rfl, fun u yC lC ru => ?_⟩
    cases (show u = Value.ref S from ru)
    exact q cs (cmdsSt_end st tokm k) hc G S yC eG hHS sa
theorem k_commands_of (T : Txt K mg A) : Ok P w K mg base 7 "commands_of" (spCommandsOf A) := by
  obtain ⟨f, fd, ps, F, hm, kp, b⟩ := (kr_commands_of (P := P) (w := w) (base := base) T).ex
  refine ⟨f, fd, ps, F.ok.imp fun vs H Q E ⟨a, b, e, ha, q, o⟩ => ?_, hm, kp, b⟩
  have k : ∀ z, spCommandsR A vs H z (fun u G _ => ∃ v, RelV v u ∧ Q v G) E := fun z => ⟨a, b, e, ha, fun s es hs H' S _ e1 hS sa => ⟨.ref S, rfl, q s es hs H' S e1 hS sa⟩, o⟩
  exact ⟨F.len vs H ⟨base, #[], {}, 0, {}⟩ _ E (k _), k⟩
end
end Lp
set_option maxRecDepth 100000
set_option maxHeartbeats 2000000
/-! Letters in lines: in, replace, replace once. -/
namespace Lp
open PySem PySem.Spec PyProof.Rows L2 Builtin.Str
open VasedBase (Bytes)
open Vaseda (Line begins hasIn swapBy swapIn)
theorem nat_inj {a b : List UInt8} : a.map (·.toNat) = b.map (·.toNat) ↔ a = b := ⟨fun h => toS_inj (by unfold toS; rw [h]), fun h => by rw [h]⟩
theorem sub_is (x a : Bytes) (i : Nat) : subAt (toS x) (toS a) i = ((x.drop i).take a.length == a) := by
  rw [StrLaws.subAt_eq, toS_cps, toS_cps, toS_len, ← List.map_drop, ← List.map_take, Bool.eq_iff_iff, beq_iff_eq, beq_iff_eq]
  exact nat_inj
theorem at_is (x a : Bytes) (i : Nat) : StrLaws.At (toS x) (toS a) (toS x).length i ↔ i + a.length ≤ x.length ∧ begins a (x.drop i) = true := by
  show i + (toS a).length ≤ (toS x).length ∧ subAt (toS x) (toS a) i = true ↔ _
  rw [sub_is, toS_len, toS_len]
  exact Iff.rfl
theorem has_is (x a : Bytes) : (!(occurrences (toS x) (toS a) 0 (toS x).length 1).isEmpty) = hasIn a x := by
  rw [Bool.eq_iff_iff, StrLaws.found_iff]
  unfold hasIn
  rw [List.any_eq_true]
  constructor
  · rintro ⟨i, h1, h2⟩
    rw [sub_is] at h2
    rw [toS_len, toS_len] at h1
    exact ⟨i, List.mem_range.mpr (by omega), by rw [show begins a (x.drop i) = true from h2, decide_eq_true h1]; rfl⟩
  · rintro ⟨i, _, h⟩
    rw [Bool.and_eq_true, decide_eq_true_iff] at h
    refine ⟨i, by rw [toS_len, toS_len]; exact h.2, ?_⟩
    rw [sub_is]
    exact h.1
theorem begins_n (a l : Bytes) : begins a l = true ↔ (l.map (·.toNat)).take (a.map (·.toNat)).length = a.map (·.toNat) := by
  unfold begins
  rw [List.length_map, ← List.map_take, nat_inj, beq_iff_eq]
theorem repl_all (a b : Bytes) (ha : a ≠ []) : ∀ (n : Nat) (x : Bytes), x.length < n → StrLaws.replL (a.map (·.toNat)) (b.map (·.toNat)) (x.map (·.toNat)) = (swapBy a b false n x).map (·.toNat)
  | 0, _, h => absurd h (Nat.not_lt_zero _)
  | n + 1, [], _ => by
    unfold swapBy
    exact StrLaws.replL_nil
  | n + 1, c :: r, h => by
    rw [List.length_cons] at h
    unfold swapBy
    dsimp only
    have na : a.map (·.toNat) ≠ [] := fun z => ha (List.map_eq_nil_iff.mp z)
    by_cases hb : begins a (c :: r) = true
    · rw [if_pos hb, if_neg Bool.false_ne_true, List.map_append, List.map_cons, StrLaws.replL_hit na ((begins_n a (c :: r)).mp hb), List.length_map]
      rw [show (c.toNat :: r.map (·.toNat)) = (c :: r).map (·.toNat) from rfl, ← List.map_drop, repl_all a b ha n _ (by
        have : 1 ≤ a.length := List.length_pos_iff.mpr ha
        rw [List.length_drop, List.length_cons]; omega)]
    · rw [if_neg hb, List.map_cons, List.map_cons, StrLaws.replL_miss (fun z => hb ((begins_n a (c :: r)).mpr z)), repl_all a b ha n r (by omega)]
theorem txt_all {a b x : Bytes} (ha : a ≠ []) : Txt.replace (toS x) (toS a) (toS b) = toS (swapIn a b false x) := by
  have h : (Txt.replace (toS x) (toS a) (toS b)).cps.toList = (toS (swapIn a b false x)).cps.toList := by
    rw [StrLaws.replace_list (by rw [toS_len]; exact List.length_pos_iff.mpr ha), toS_cps, toS_cps, toS_cps, toS_cps]
    exact repl_all a b ha _ x (Nat.lt_succ_self _)
  have h2 : (Txt.replace (toS x) (toS a) (toS b)).cps = (toS (swapIn a b false x)).cps := Array.toList_inj.mp h
  cases e1 : Txt.replace (toS x) (toS a) (toS b)
  cases e2 : toS (swapIn a b false x)
  rw [e1, e2] at h2
  cases h2
  rfl
/-- only the first -/
theorem once_none (a b : Bytes) (once : Bool) : ∀ (n : Nat) (x : Bytes), (∀ k, k + a.length ≤ x.length → begins a (x.drop k) = false) → a ≠ [] → swapBy a b once n x = x
  | 0, _, _, _ => rfl
  | _ + 1, [], _, _ => rfl
  | n + 1, c :: r, h, ha => by
    unfold swapBy
    dsimp only
    have hb : ¬ begins a (c :: r) = true := fun z => by
      have l : a.length ≤ (c :: r).length := by
        have e : (c :: r).take a.length = a := by unfold begins at z; exact eq_of_beq z
        have := congrArg List.length e
        rw [List.length_take] at this
        omega
      have := h 0 (by omega)
      rw [List.drop_zero] at this
      rw [this] at z; cases z
    rw [if_neg hb, once_none a b once n r (fun k hk => by
      have := h (k + 1) (by rw [List.length_cons]; omega)
      rwa [List.drop_succ_cons] at this) ha]
theorem once_at (a b : Bytes) (ha : a ≠ []) : ∀ (i n : Nat) (x : Bytes), x.length < n → i + a.length ≤ x.length → begins a (x.drop i) = true → (∀ k, k < i → begins a (x.drop k) = false) → swapBy a b true n x = x.take i ++ (b ++ x.drop (i + a.length))
  | _, 0, _, h, _, _, _ => absurd h (Nat.not_lt_zero _)
  | i, n + 1, [], _, hl, _, _ => by
    have : 1 ≤ a.length := List.length_pos_iff.mpr ha
    rw [List.length_nil] at hl
    omega
  | 0, n + 1, c :: r, h, hl, hb, _ => by
    rw [List.drop_zero] at hb
    unfold swapBy
    dsimp only
    rw [if_pos hb, if_pos rfl, List.take_zero, Nat.zero_add]
    rfl
  | i + 1, n + 1, c :: r, h, hl, hb, hn => by
    rw [List.length_cons] at h hl
    have h0 := hn 0 (Nat.succ_pos _)
    rw [List.drop_zero] at h0
    unfold swapBy
    dsimp only
    rw [if_neg (by rw [h0]; exact Bool.false_ne_true), once_at a b ha i n r (by omega) (by omega) (by rwa [List.drop_succ_cons] at hb) (fun k hk => by
      have := hn (k + 1) (by omega)
      rwa [List.drop_succ_cons] at this)]
    rw [List.take_succ_cons, show i + 1 + a.length = (i + a.length) + 1 by omega, List.drop_succ_cons]
    rfl
/-- str.replace(.., 1), by its places -/
def once (x y z : Str) : Str := if (occurrences x y 0 x.length 1).isEmpty = true then x else glued z (partsBetween x (occurrences x y 0 x.length 1) y.length)
theorem txt_once {a b x : Bytes} (ha : a ≠ []) : once (toS x) (toS a) (toS b) = toS (swapIn a b true x) := by
  unfold once swapIn
  rcases StrLaws.occ_head (toS x) (toS a) 1 (Nat.le_refl _) with ⟨h0, hn⟩ | ⟨i, r, h0, hA, hn⟩
  · rw [h0, if_pos (show ([] : List Nat).isEmpty = true from rfl), once_none a b true _ x (fun k hk => ?_) ha]
    cases e : begins a (x.drop k) with
    | false => rfl
    | true => exact absurd ((at_is x a k).mpr ⟨hk, e⟩) (hn k)
  · have r0 : r = [] := by
      have := StrLaws.occ_length_le (toS x) (toS a) 0 (toS x).length 1
      rw [h0, List.length_cons] at this
      cases r with
      | nil => rfl
      | cons _ _ => rw [List.length_cons] at this; omega
    subst r0
    obtain ⟨h1, h2⟩ := (at_is x a i).mp hA
    rw [h0, if_neg (by simp), once_at a b ha i _ x (Nat.lt_succ_self _) h1 h2 (fun k hk => by
      cases e : begins a (x.drop k) with
      | false => rfl
      | true => exact absurd ((at_is x a k).mpr ⟨by omega, e⟩) (hn k hk))]
    have l : (glued (toS b) (partsBetween (toS x) [i] (toS a).length)).cps.toList = (toS (x.take i ++ (b ++ x.drop (i + a.length)))).cps.toList := by
      rw [StrLaws.partsBetween_eq]
      show (glued (toS b) [strSub (toS x) 0 i, strSub (toS x) (i + (toS a).length) (toS x).length]).cps.toList = _
      rw [StrLaws.glued_list]
      show (strSub (toS x) 0 i).cps.toList ++ ((toS b).cps.toList ++ ((strSub (toS x) (i + (toS a).length) (toS x).length).cps.toList ++ [])) = _
      rw [StrLaws.strSub_toList, StrLaws.strSub_toList, List.append_nil, toS_cps, toS_cps, toS_cps, toS_len, toS_len, List.drop_zero, Nat.sub_zero, List.map_append, List.map_append, ← List.map_take, ← List.map_drop]
      congr 2
      rw [List.take_of_length_le]
      rw [List.length_map, List.length_drop]; omega
    have h2 : (glued (toS b) (partsBetween (toS x) [i] (toS a).length)).cps = (toS (x.take i ++ (b ++ x.drop (i + a.length)))).cps := Array.toList_inj.mp l
    cases e1 : glued (toS b) (partsBetween (toS x) [i] (toS a).length)
    cases e2 : toS (x.take i ++ (b ++ x.drop (i + a.length)))
    rw [e1, e2] at h2
    cases h2
    rfl
end Lp
set_option maxRecDepth 100000
set_option maxHeartbeats 2000000
/-! str.replace of texts that are known as objects. -/
namespace Lp
open PySem PySem.Spec PyProof.Rows L2 Builtin Builtin.Str
theorem once_len (x y z : Str) : (once x y z).length ≤ x.length + (x.length + 1) * z.length := by
  unfold once
  split
  · exact Nat.le_add_right _ _
  · have hy := congrArg Str.length (StrLaws.glued_between_self x y 1)
    have h1 := StrLaws.occ_length_le x y 0 x.length 1
    rw [size_glued, length_partsBetween, Nat.add_sub_cancel] at hy
    rw [size_glued, length_partsBetween, Nat.add_sub_cancel]
    have h2 : (occurrences x y 0 x.length 1).length * z.length ≤ (x.length + 1) * z.length := Nat.mul_le_mul_right _ (by omega)
    omega
theorem replace1_run {prog : Program} {w : World} {A : Around} {E : Value → Shared → Prop} {s : Shared} {x y z : Str} {t u v n : PySem.Tok} {Q : Value → Shared → Prop} (hy : 1 ≤ y.length) (hu : u ≠ 0) (hv : v ≠ 0) (huv : u ≠ v) (hb : x.length + (x.length + 1) * z.length ≤ 16777216)
    (hnb : NoneBooked s.heap) (hq : ∀ t' k, Q (.str (once x y z) t') { s with toks := k }) : wpAny (model prog w) A (call (.builtin "str.replace") [.str x t, .str y u, .str z v, .int 1 n]) Q E s := by
  have h0 : (u == 0 || v == 0) = false := by simp [hu, hv]
  have y0 : (y.length == 0) = false := beq_eq_false_iff_ne.mpr (by omega)
  have hl : tooLong (x.length + (occurrences x y 0 x.length 1).length * z.length) = false := by
    have h1 := StrLaws.occ_length_le x y 0 x.length 1
    have h2 : (occurrences x y 0 x.length 1).length * z.length ≤ (x.length + 1) * z.length := Nat.mul_le_mul_right _ (by omega)
    unfold tooLong sizeLine
    exact decide_eq_false (by omega)
  refine call_meets (S := fun _ R s => NoneBooked s.heap ∧ ∀ t' k, R (.ok (.ret (.str (once x y z) t'))) { s with toks := k }) PySem.F.slot_str_replace (typeIs_str _ _ _) PySem.F.entry_str_replace (PySem.F.args_str_replace_4 _ _ _ _) ?_ ⟨hnb, fun t' k => hq t' k⟩
  intro prog w A R s ⟨nb, q⟩
  show wpAny _ _ (if ((occurrences x y 0 x.length 1).isEmpty || (y.length == 0 && z.length == 0)) = true then (do rule "str.replace.nothing"; ret (.str x t)) else
          (do let same ← isSame (.str y u) (.str z v)
              if same = true then (do rule "str.replace.old-is-new"; ret (.str x t)) else
              if tooLong (x.length + (occurrences x y 0 x.length 1).length * z.length) = true then unsupported "str.replace:memory" else
              retStr (glued z (partsBetween x (occurrences x y 0 x.length 1) y.length)))) _ _ _
  rw [y0, Bool.false_and, Bool.or_false]
  cases hc : (occurrences x y 0 x.length 1).isEmpty with
  | true =>
    have eo : once x y z = x := by unfold once; rw [if_pos hc]
    rw [if_pos rfl]
    exact wpAny_bind (wpAny_rule (wpAny_pure (eo ▸ q t s.toks)))
  | false =>
    have eo : once x y z = glued z (partsBetween x (occurrences x y 0 x.length 1) y.length) := by unfold once; rw [if_neg (by rw [hc]; exact Bool.false_ne_true)]
    have made : ∀ {s' : Shared}, s' = s → wpAny (model prog w) A.in1 (if tooLong (x.length + (occurrences x y 0 x.length 1).length * z.length) = true then unsupported "str.replace:memory" else retStr (glued z (partsBetween x (occurrences x y 0 x.length 1) y.length))) (fun fin s' => match fin with | .done f => R (.ok f) s' | .again c' => c'.quiet = true ∧ codeAny (model prog w) A c' R s') (fun e s' => R (.error e) s') s' := fun {s'} e => by
      subst e
      rw [hl, if_neg Bool.false_ne_true]
      refine wpAny_bind (wpAny_mkStr (wpAny_pure (eo ▸ q _ _)) ?_)
      rw [← eo, sizeLine_eq]
      exact Nat.le_trans (once_len x y z) hb
    rw [if_neg Bool.false_ne_true]
    by_cases hyz : y = z
    · subst hyz
      have es : once x y y = x := by rw [eo, StrLaws.glued_between_self]
      refine wpAny_bind (wpAny_isSame_str h0 nb fun b => ?_)
      cases b with
      | false =>
        rw [if_neg Bool.false_ne_true]
        exact made rfl
      | true =>
        rw [if_pos rfl]
        exact wpAny_bind (wpAny_rule (wpAny_pure (by have := q t s.toks; rw [es] at this; exact this)))
    · rw [isSame_str_other y z u v h0 (by simp [huv]) (by simpa using hyz)]
      exact made rfl
end Lp
set_option maxRecDepth 100000
set_option maxHeartbeats 2000000
namespace Lp
open PySem PySem.Spec PyProof.Rows L2
/-- d[k], d a tuple known as an object -/
def tDixR (ip : Nat) (k : Nat) : TR := fun σ G z Q => ∃ a o us n xs u, σ[ip]? = some (some (.ref a)) ∧ G a = some (.frz o (.tup xs)) ∧ o.cls = .type "tuple" ∧ o.data = .seq us n ∧ us[k]? = some u ∧ us.size ≤ 1000 ∧ ∀ y : Shared, z.toks ≤ y.toks → Q u G y
section
variable {X : Cx}
theorem pr_dix {ip k : Nat} {px : Str} {j : Nat} {p1 cp pos : Pos} (hN : X.N[ip]? = some px) (hv : Vis X.env.scope px) (hs : PlainIx (.Constant (.int (k : Int)) j cp)) (d1 : (px == ("__debug__" : Str)) = false := by decide) (d2 : (px == ("__classdict__" : Str)) = false := by decide) :
    PR X (.Subscript (.Name px p1) (.Constant (.int (k : Int)) j cp) pos) (tDixR ip k) := ⟨fun pins z σ G Q I ⟨a, o, us, n, xs, u, hσ, ha, oc, od, hu, hsz, q⟩ => by
  obtain ⟨ho, _⟩ := I.hok a _ ha
  refine Subscript_ (raw_name hN hv I hσ (fun v r => ?_) d1 d2)
  cases (show v = Value.ref a from r)
  refine wpAny_Constant_int ?_
  have lt : k < us.size := by
    rcases Nat.lt_or_ge k us.size with c | c
    · exact c
    · rw [Array.getElem?_eq_none c] at hu; cases hu
  have tu : IsTup z.heap a us := ⟨o, ho, oc, n, od⟩
  refine subscriptTail_builtinR (x := u) tu.typeIs slot_tuple_getitem.lookup (getItem_tuple (j := k) (Q := fun r y => r = u ∧ ER X pins σ Q r y) tu (by omega) (by omega) ?_ hu ⟨rfl, G, I.tok _, q _ (Nat.le_succ _)⟩) (hs _ _)
  unfold seqIndex?
  simp only [show ¬ ((k : Int) < 0) by omega, if_false]
  simp
  omega⟩
/-- what a replacing makes of its arguments -/
def Repl (x : Str) (us : List Value) (r : Str) : Prop := ∃ y z t u, 1 ≤ y.length ∧ t ≠ 0 ∧ u ≠ 0 ∧ t ≠ u ∧ x.length + (x.length + 1) * z.length ≤ 16777216 ∧ ((us = [.str y t, .str z u] ∧ r = Txt.replace x y z) ∨ ∃ n, us = [.str y t, .str z u, .int 1 n] ∧ r = once x y z)
def tRepD (to : TE) (t : TAR) : TE := fun σ H Q => to σ H fun v H1 => (∃ x, v = .str x) ∧ ∀ y : Shared, t σ H1 y fun us H2 _ => ∃ x r, v = .str x ∧ Repl x us r ∧ Q (.str r) H2
theorem pe_repD {o e : Expr} {es : List Expr} {to : TE} {t : TAR} {apos cpos : Pos} (nb : ∀ h, X.K.In h → NoneBooked h) (ho : PE X o to) (ha : PAR X (e :: es) t)
    (hbase : attributeBase o "replace" X.env (eval o X.env) = eval o X.env := by rfl)
    (hfew : ((backTo cpos (starEach (e :: es) X.env)).all (fun q => !q.1) && (backToKw cpos (keywordEach [] X.env)).all (fun q => q.1.isSome)
      && decide ((e :: es).length + ([] : List Keyword).length + (if ([] : List Keyword).isEmpty then 0 else 1) < 30)) = true := by rfl)
    (hline : (apos.endLine == cpos.line) = true := by rfl) (hs : starEach (e :: es) X.env = (false, eval e X.env) :: starEach es X.env := by rfl) (hplain : (backTo cpos (starEach es X.env)).any (·.1) = false := by rfl) :
    PE X (.Call (.Attribute o "replace" apos) (e :: es) [] cpos) (tRepD to t) := ⟨fun pins z σ G Q I q => by
  refine wpAny_Call_method_late hbase hfew hline rfl (thn (ho.run pins z σ G _ I q) fun v y ⟨w, G1, J, rw', ⟨x, ex⟩, k⟩ => ?_)
  obtain ⟨h1, h2⟩ := tyV_is (T := "str") J rw' (by rw [ex]; rfl)
  refine ⟨"str", "str.replace", PySem.F.plainAttrs_str, PySem.F.slot_str_replace, PySem.F.type_str_replace, h1, h2, ?_⟩
  have hA := ha.run cpos pins y σ G1 _ J (k y)
  rw [hs] at hA ⊢
  refine Calls.callWith_builtin (by show (false || (backTo cpos (starEach es X.env)).any (·.1)) = false; rw [hplain] <;> rfl) (Calls.evalArgs_plain ?_)
  refine thn hA fun us s2 ⟨G2, J2, x2, r, e2, ⟨a, b, t1, t2, n1, n2, n3, n4, n5, form⟩, q2⟩ => ?_
  subst ex
  cases e2
  obtain ⟨tx, rfl⟩ := rw'
  rcases form with ⟨rfl, rfl⟩ | ⟨n, rfl, rfl⟩
  · exact PySem.SC.replaceA n2 n3 n4 n5 (fun t' k => ⟨.str (Txt.replace x a b), G2, J2.tok k, ⟨t', rfl⟩, q2⟩) (nb _ J2.kIn)
  · exact replace1_run n1 n2 n3 n4 n5 (nb _ J2.kIn) fun t' k => ⟨.str (once x a b), G2, J2.tok k, ⟨t', rfl⟩, q2⟩⟩
end
end Lp
set_option maxRecDepth 100000
set_option maxHeartbeats 2000000
/-! for n, x in enumerate(l, start=k) -/
namespace Lp
open PySem PySem.Spec PyProof.Rows L2
theorem draws_lst {prog : Program} {w : World} {A : Around} {it l : Addr} {items : Array Value} (hh : A.handled = none) : Draws prog w A it [it, l] items.size (fun i x => items[i]? = some x) (fun i h => h.IsListIter it l i ∧ h.IsList l items) where
  live := fun i h ⟨⟨o, e, _⟩, _⟩ => ⟨o, e⟩
  frame := fun i h h' ⟨a, b⟩ k => ⟨a.at fun o e => k it (by simp) o e, b.at fun o e => k l (by simp) o e⟩
  item := fun i s Q E lt ⟨a, b⟩ hQ => by
    have ne : l ≠ it := by
      obtain ⟨o, e, c, _⟩ := a
      obtain ⟨o2, e2, c2, _⟩ := b
      intro z
      rw [z, e] at e2
      cases e2
      rw [c] at c2
      exact absurd (Value.type.inj c2) (by decide)
    exact wpAny_nextOf_list_item (x := items[i]) a b (by simp [lt]) fun h' a' sb => hQ _ h' s.toks (by simp [lt]) ⟨a', b.at fun o e => (sb.2 l ne).trans e⟩ sb
  done := fun s Q E ⟨a, b⟩ hE => wpAny_nextOf_list_end hh a b (by simp) hE
/-- each item of the list at a with its number, counted from k -/
def Itk (K : PySem.W.Frag) (k : Nat) (a : Addr) : It :=
  ⟨fun i H => ∃ (xs : List V) (x : V), SqL K H a xs ∧ xs[i]? = some x, fun i H v H' => ∃ T x, v = .ref T ∧ H T = none ∧ H' = upd H T (.tup [.int ((k + i : Nat) : Int), x]) ∧ ∀ xs, SqL K H a xs → xs[i]? = some x, fun i H => ∃ xs : List V, SqL K H a xs ∧ xs.length = i⟩
theorem turn_from {P : Program} {w : World} {K : PySem.W.Frag} {elts : List Expr} {kk k : Nat} {tp : Pos} (a e it : Addr) : Turn P w K (.Tuple elts kk tp) (Itk K k a) [e, it] e (fun i h => (∃ old, IsEnum h e it ((k + i : Nat) : Int) old) ∧ h.IsListIter it a i ∧ e ≠ it) where
  mem := List.mem_cons_self
  obj := fun i h st b hb => by
    obtain ⟨⟨old, he⟩, ⟨o, ho, hc, hd⟩, _⟩ := st
    rcases List.mem_cons.mp hb with z | hb
    · rw [z]; exact ⟨_, he, fun v q => nomatch q⟩
    · cases List.mem_singleton.mp hb
      exact ⟨o, ho, fun v q => by rw [hd] at q; cases q⟩
  keep := fun i h h' st q => let ⟨⟨old, he⟩, hi, ne⟩ := st; ⟨⟨old, q e (by simp) _ he⟩, hi.at fun o z => q it (by simp) o z, ne⟩
  item := fun X hP hw hK hc i pins s σ H E I hf ⟨⟨old, he⟩, hit, ne⟩ ⟨xs, x, hq, hx⟩ => by
    subst hP hw hK
    obtain ⟨its, rv, p, hz⟩ := I.list hq
    obtain ⟨u, hu, ru⟩ := rv.get hx
    have le : e < s.heap.objs.size := Heap.lt_size he
    have li : it < s.heap.objs.size := by obtain ⟨_, q, _⟩ := hit; exact Heap.lt_size q
    have nea : e ≠ a := by
      obtain ⟨o, q, c, _⟩ := p.isList
      intro z
      have he' : s.heap.get? e = some _ := he
      rw [z, q] at he'
      cases he'
      exact absurd (Value.type.inj c) (by decide)
    have hu' : its.toArray[i]? = some u := by simpa using hu
    have lt : i < its.toArray.size := by
      have := get_lt hu
      simpa using this
    refine wpAny_pyNext_enum_itemC (draws_lst (A := X.A.in1) (I.ok.hd hc)) he ⟨hit, p.isList⟩ lt ne (by simp [ne, nea]) fun u2 h' tk hu2 ho st' hT hsz hk => ?_
    rw [hu'] at hu2
    cases hu2
    refine ⟨_, rfl, wpAny_letOwnedTupleGo_enum (s := { s with heap := h', toks := tk + 1 }) ho fun h2 he2 sb => ?_⟩
    have hT2 : h2.get? s.heap.objs.size = some { cls := .type "tuple", data := .seq #[.int ((k + i : Nat) : Int) tk, u] } := (sb.2 _ (Nat.ne_of_gt le)).trans hT
    have new : ObjOk X.prog X.w (upd H s.heap.objs.size (.tup [.int ((k + i : Nat) : Int), x])) h2 s.heap.objs.size (.tup [.int ((k + i : Nat) : Int), x]) :=
      ⟨show 2 ≤ sizeLine from sz2, [.int ((k + i : Nat) : Int) tk, u], .cons ⟨_, rfl⟩ (.cons ru .nil), ⟨_, hT2, rfl, _, rfl⟩⟩
    have J : Inv X pins σ (upd H s.heap.objs.size (.tup [.int ((k + i : Nat) : Int), x])) { s with heap := h2, toks := tk + 1 } :=
      I.turnedNew (ch := [e, it]) (fun b o hb q => (sb.2 b (fun z => hb (by simp [z]))).trans (hk b o (fun z => hb (by simp [z])) (fun z => hb (by simp [z])) q)) hf (Nat.le_refl _) new
    refine ⟨.ref s.heap.objs.size, _, J, rfl, ⟨_, x, rfl, I.hok.fresh (Nat.le_refl _), rfl, fun ys hy => by rw [I.list_inj hy hq]; exact hx⟩, ⟨⟨u, ?_⟩, st'.1.at fun o q => (sb.2 it (Ne.symm ne)).trans q, ne⟩, fun b hb => ?_⟩
    · rw [show ((k + (i + 1) : Nat) : Int) = ((k + i : Nat) : Int) + 1 by omega]
      exact he2
    · have lb : b < s.heap.objs.size := by
        rcases List.mem_cons.mp hb with z | hb
        · rw [z]; exact le
        · cases List.mem_singleton.mp hb; exact li
      rw [upd_ne (Nat.ne_of_lt lb)]
      exact (hf b hb).1
  done := fun X hP hw hK hc i pins s σ H E I hf ⟨⟨old, he⟩, hit, ne⟩ ⟨xs, hq, hx⟩ => by
    subst hP hw hK
    obtain ⟨its, rv, p, hz⟩ := I.list hq
    obtain ⟨f0, f1, f2, f3, f4, f5⟩ := hf it (by simp)
    have hl : i = its.toArray.size := by
      have := rv.length
      simp
      omega
    rw [hl] at hit
    exact wpAny_pyNext_enum_endD (draws_lst (A := X.A.in1) (I.ok.hd hc)) he ⟨hit, p.isList⟩ fun h' eb => ⟨rfl, I.turned (t' := s.toks) (fun b o hb q => eb b o hb q) f0 f1 f3 f4 f5⟩
  self := fun A i s Q E ⟨⟨_, he⟩, _⟩ h => wpAny_pyIter_enum he h
theorem callWith_tykw {M : Model} {A : Around} {E : Value → Shared → Prop} {s : Shared} {pos : Pos} {T : String} {args : List (Bool × Sem Value)} {kws : List (Option Str × Sem Value)} {Q : Value → Shared → Prop} (h0 : (args.any (·.1) || kws.any (·.1.isNone)) = false)
    (h : wpAny M A (evalArgs (.type T) true args kws) (fun a y => wpAny M A (call (.type T) a.pos a.kw) Q E y) E s) : wpAny M A (callWith pos (.type T) [] args kws) Q E s := by
  unfold callWith
  refine wpAny_bind (wpAny_holding (wpAny_mono h (fun a y hy => wpAny_bind (wpAny_standAt ?_)) fun _ _ q => q))
  simp only [h0]
  exact wpAny_bind (wpAny_pure (wpAny_bind (wpAny_mono hy (fun r z hz => wpAny_bind (wpAny_holding (wpAny_point (wpAny_pure hz)))) fun _ _ q => q)))
def iFrom (K : PySem.W.Frag) (k : Nat) (ta : TA) : TI := fun σ H R => ta σ H fun vs H1 => ∃ a xs, vs = [.ref a] ∧ SqL K H1 a xs ∧ R (Itk K k a) H1
theorem pi_from {X : Cx} {e : Expr} {ta : TA} {p pos tp cp kp : Pos} {elts : List Expr} {kk k j : Nat} (hg : Gl X "enumerate") (hm : X.mg "enumerate" = none) (hk : k < 1000) (ha : PA X [e] ta) (hs : starEach [e] X.env = [(false, eval e X.env)] := by rfl) :
    PI X (.Tuple elts kk tp) (.Call (.Name "enumerate" p) [e] [⟨some "start", .Constant (.int (k : Int)) j cp, kp⟩] pos) (iFrom X.K k ta) := by
  refine ⟨fun pins s σ H R I h => wpAny_Call_Name_kw (ld_blt I hg hm boot_enumerate (callWith_tykw (by rw [hs]; rfl) ?_))⟩
  have hA := ha.run pos pins s σ H _ I h
  rw [hs] at hA ⊢
  refine evalArgs_kwB rfl (thn hA fun us y ⟨vs, H1, J, r, a, xs, ev, hq, q⟩ => ?_)
  subst ev
  obtain ⟨u, rfl, ru⟩ := Vals.one r
  cases (show u = Value.ref a from ru)
  have hK := (pk_cons (X := X) (nm := some "start") (e := .Constant (.int (k : Int)) j cp) (kpos := kp) pe_int pk_nil).run pos pins y σ H1 (fun vs H2 => vs = [.int (k : Int)] ∧ H2 = H1) J ⟨rfl, rfl⟩
  refine thn hK fun ks z ⟨ws, H2, J2, r2, ew, eH⟩ => ?_
  subst ew eH
  obtain ⟨u2, rfl, t2, rfl⟩ := Vals.one r2
  obtain ⟨its, rv, p', hz⟩ := J2.list hq
  refine enum_begins_start (begins_list a its.toArray) p'.isList (by omega) (by omega) fun h' he hit hsz hk2 => wpAny_pyIter_enum he ?_
  have J3 : Inv X pins σ H2 { z with heap := h' } := J2.kept (t' := z.toks) hk2
  refine ⟨z.heap.objs.size + 1, [z.heap.objs.size + 1, z.heap.objs.size], _, _, H2, rfl, J3, turn_from a (z.heap.objs.size + 1) z.heap.objs.size, ⟨⟨.none, he⟩, ⟨_, hit, rfl, rfl⟩, Nat.succ_ne_self _⟩, fun b hb => ?_, q⟩
  have le : z.heap.objs.size ≤ b := by
    rcases List.mem_cons.mp hb with c | c
    · rw [c]; exact Nat.le_succ _
    · rw [List.mem_singleton.mp c]; exact Nat.le_refl _
  exact J2.fpOk le (J2.hok.fresh le)
/-- the walk, with what is known at each turn -/
theorem walk_from {K : PySem.W.Frag} {k : Nat} {a : Addr} {xs : List V} {g : TG} {tb : TS} {D : Ends} {σ : L2.St} {H : Hp} (Pv : Nat → L2.St → Hp → Prop) (h0 : Pv 0 σ H) (hl : ∀ i σ H, Pv i σ H → SqL K H a xs)
    (hs : ∀ i x σ H T, xs[i]? = some x → Pv i σ H → H T = none → g (.ref T) σ (upd H T (.tup [.int ((k + i : Nat) : Int), x])) fun σ2 H2 => tb { D with nx := Pv (i + 1), ct := Pv (i + 1), bk := D.nx } σ2 H2) (hd : ∀ σ H, Pv xs.length σ H → D.nx σ H) :
    ∃ W : Nat → Nat → L2.St → Hp → Prop, (∃ m, W 0 m σ H) ∧ ∀ i m σ H, W i m σ H →
      ((Itk K k a).stop i H ∧ D.nx σ H) ∨ ((Itk K k a).go i H ∧ ∃ N : L2.St → Hp → Prop, (∀ σ' H', N σ' H' → ∃ m', m' < m ∧ W (i + 1) m' σ' H') ∧ ∀ x H', (Itk K k a).yld i H x H' → g x σ H' fun σ2 H2 => tb { D with nx := N, ct := N, bk := D.nx } σ2 H2) := by
  refine ⟨fun i m σ H => m = xs.length - i ∧ i ≤ xs.length ∧ Pv i σ H, ⟨xs.length, rfl, Nat.zero_le _, h0⟩, fun i m σ H ⟨em, hi, p⟩ => ?_⟩
  subst em
  have q := hl i σ H p
  rcases Nat.lt_or_ge i xs.length with lt | ge
  · refine .inr ⟨⟨xs, xs[i], q, by simp [lt]⟩, Pv (i + 1), fun σ' H' p' => ⟨_, by omega, rfl, lt, p'⟩, fun x H' ⟨T, y, ev, hT, eH, hy⟩ => ?_⟩
    subst ev eH
    exact hs i y σ H T (hy xs q) p hT
  · have e : i = xs.length := Nat.le_antisymm hi ge
    subst e
    exact .inl ⟨⟨xs, q, rfl⟩, hd σ H p⟩
end Lp
set_option maxRecDepth 100000
set_option maxHeartbeats 2000000
namespace Lp
open PySem PySem.Spec PyProof.Rows L2
open VasedBase (Bytes word)
open Vaseda (Line Text Deed swapIn)
theorem Txt.nb {K : PySem.W.Frag} {mg : Str → Option Value} {A : Ad} (T : Txt K mg A) : ∀ h, K.In h → NoneBooked h := fun h X => ⟨_, .of_isNs (PySem.W.isNs_of_in X T.n_nbk), PySem.W.nsMap_none_of_in X T.n_nbk T.n_nb⟩
/-- a line while the commands are gone through on it -/
structure Sp0 where
  x : Line
  k : Nat
  last : Bool
  held : Line
  pre : Text
  post : Text
  gone : Bool
  halt : Bool
  left : Nat
def spFs (s : Sp0) (a b : Addr) : List (Str × V) := [("line", sV s.x), ("number", nV s.k), ("is_last", .bl s.last), ("held", sV s.held), ("ahead", .ref a), ("behind", .ref b), ("deleted", .bl s.gone), ("ended", .bl s.halt), ("left_out", nV s.left)]
structure SpotAt (A : Ad) (H : Hp) (p a b : Addr) (s : Sp0) : Prop where
  obj : ∃ dx, H p = some (.ins A.sp dx (spFs s a b))
  pre : LnAt H a s.pre
  post : LnAt H b s.post
  ne : a ≠ b
def But3 (p a b : Addr) (H H' : Hp) : Prop := ∀ c u, c ≠ p → c ≠ a → c ≠ b → H c = some u → H' c = some u
theorem But3.trans {p a b : Addr} {H H1 H2 : Hp} (x : But3 p a b H H1) (y : But3 p a b H1 H2) : But3 p a b H H2 := fun c u n1 n2 n3 h => y c u n1 n2 n3 (x c u n1 n2 n3 h)
theorem But3.of {p a b : Addr} {H H' : Hp} (e : Same H H') : But3 p a b H H' := fun c u _ _ _ h => e c u h
theorem But3.keepF {A : Ad} {p a b : Addr} {s : Sp0} {H H' : Hp} (k : But3 p a b H H') (sp : SpotAt A H p a b s) : KeepF H H' := by
  obtain ⟨⟨dx, hp⟩, h1, h2, _⟩ := sp
  exact ⟨fun c vs h => k c _ (ne_of h hp (by intro z; cases z)) (ne_of h h1 (by intro z; cases z)) (ne_of h h2 (by intro z; cases z)) h, fun c o vs h => k c _ (ne_of h hp (by intro z; cases z)) (ne_of h h1 (by intro z; cases z)) (ne_of h h2 (by intro z; cases z)) h⟩
theorem SpotAt.at_ne {A : Ad} {H : Hp} {p a b : Addr} {s : Sp0} (k : SpotAt A H p a b s) : p ≠ a ∧ p ≠ b := by
  obtain ⟨⟨dx, hp⟩, h1, h2, _⟩ := k
  exact ⟨ne_of hp h1 (by intro z; cases z), ne_of hp h2 (by intro z; cases z)⟩
/-- a field is written -/
theorem SpotAt.put {A : Ad} {H : Hp} {p a b dx : Addr} {s s' : Sp0} (k : SpotAt A H p a b s) (h : s'.pre = s.pre) (h2 : s'.post = s.post) : SpotAt A (upd H p (.ins A.sp dx (spFs s' a b))) p a b s' := by
  obtain ⟨n1, n2⟩ := k.at_ne
  exact ⟨⟨dx, upd_same⟩, by rw [h]; exact (upd_ne n1.symm).trans k.pre, by rw [h2]; exact (upd_ne n2.symm).trans k.post, k.ne⟩
theorem But3.at_p {p a b : Addr} {H : Hp} {o : HO} : But3 p a b H (upd H p o) := fun c u n _ _ h => by rw [upd_ne n]; exact h
theorem But3.at_a {p a b : Addr} {H : Hp} {o : HO} : But3 p a b H (upd H a o) := fun c u _ n _ h => by rw [upd_ne n]; exact h
theorem But3.at_b {p a b : Addr} {H : Hp} {o : HO} : But3 p a b H (upd H b o) := fun c u _ _ n h => by rw [upd_ne n]; exact h
/-- what a deed makes of the line; none: too long a line -/
def deedStep (s : Sp0) : Deed → Option Sp0
  | .delete => some { s with gone := true, halt := true }
  | .before y => some { s with pre := s.pre ++ [y] }
  | .after y => some { s with post := s.post ++ [y] }
  | .change y => some { s with x := y }
  | .swap a b => if 16 < (swapIn a b false s.x).length then none else some { s with x := swapIn a b false s.x }
  | .first a b => if 16 < (swapIn a b true s.x).length then none else some { s with x := swapIn a b true s.x }
  | .keep => some { s with held := s.x }
  | .bring => some { s with post := s.post ++ [s.held] }
  | .trade => some { s with x := s.held, held := s.x }
  | .skip n => some { s with left := n }
  | .halt_ => some { s with halt := true }
/-- the words of a deed are short -/
def deedOk : Deed → Prop
  | .before y => y.length ≤ 8
  | .after y => y.length ≤ 8
  | .change y => y.length ≤ 8
  | .swap a b => a ≠ [] ∧ b.length ≤ 8
  | .first a b => a ≠ [] ∧ b.length ≤ 8
  | _ => True
/-- the lines are short -/
structure Sp0.ok (s : Sp0) : Prop where
  x : s.x.length ≤ 16
  held : s.held.length ≤ 16
  pre : s.pre.length ≤ 1000
  post : s.post.length ≤ 1000
def Out3 (A : Ad) (E : XK) (p a b : Addr) (H : Hp) : Prop := ∀ H' d, But3 p a b H H' → H' d = some (.xd [("number", .int (-7))]) → E (.ref A.tm) (some d) H'
theorem Out3.out {A : Ad} {E : XK} {p a b : Addr} {H : Hp} (o : Out3 A E p a b H) : Out E H A.tm [("number", .int (-7))] := fun H' d e => o H' d (.of e)
section
variable {P : Program} {w : World} {K : PySem.W.Frag} {mg : Str → Option Value} {base : Heap} {A : Ad}
/-- a deed's def -/
def spDo (A : Ad) (kind : Deed → Prop) : Sp := fun vs H Q E => ∃ (p a b v : Addr) (s : Sp0) (d : Deed), vs = [.ref p, .ref v] ∧ kind d ∧ SpotAt A H p a b s ∧ DeedAt H d v ∧ deedOk d ∧ s.ok ∧
  (∀ s', deedStep s d = some s' → ∀ H', SpotAt A H' p a b s' → But3 p a b H H' → Q .non H') ∧ (deedStep s d = none → Out3 A E p a b H)
abbrev N_do_delete : List Str := ["spot", "deed"]
theorem sc_do_delete : FnScope N_do_delete ["spot", "deed"] (defScope (top 98)) := ⟨rfl, rfl, rfl, by decide +kernel, rfl, by decide +kernel, by decide +kernel⟩
theorem k_do_delete (T : Txt K mg A) : Ok P w K mg base 1 "do_delete" (spDo A (· = .delete)) := by
  refine ok_mk T.d_do_delete sc_do_delete (fun vs H Q E ⟨_, _, _, _, _, _, e, _⟩ => by rw [e]; rfl) fun f cdv AA outer s H vs Q E hr tk po h => ⟨_, (pss_cons (ps_fld (pv 0) pe_bl rfl)
    (pss_one (ps_fld (pv 0) pe_bl rfl))), ?_⟩
  obtain ⟨p, a, b, v, s, d, rfl, rfl, sp, dat, dok, sok, q, o⟩ := h
  obtain ⟨dx, hp⟩ := sp.obj
  refine ⟨_, rfl, p, _, dx, _, rfl, hp, T.q_Spot.cl, T.q_Spot.no _ (by decide), by show 9 < 1000; decide, ?_⟩
  refine ⟨_, rfl, p, _, dx, _, rfl, upd_same, T.q_Spot.cl, T.q_Spot.no _ (by decide), by show 9 < 1000; decide, ?_⟩
  rw [upd_upd]
  exact q _ rfl _ (sp.put (s' := { s with gone := true, halt := true }) rfl rfl) .at_p
abbrev N_do_stop : List Str := ["spot", "deed"]
theorem sc_do_stop : FnScope N_do_stop ["spot", "deed"] (defScope (top 99)) := ⟨rfl, rfl, rfl, by decide +kernel, rfl, by decide +kernel, by decide +kernel⟩
theorem k_do_stop (T : Txt K mg A) : Ok P w K mg base 1 "do_stop" (spDo A (· = .halt_)) := by
  refine ok_mk T.d_do_stop sc_do_stop (fun vs H Q E ⟨_, _, _, _, _, _, e, _⟩ => by rw [e]; rfl) fun f cdv AA outer s H vs Q E hr tk po h => ⟨_, (pss_one (ps_fld (pv 0) pe_bl rfl)), ?_⟩
  obtain ⟨p, a, b, v, s, d, rfl, rfl, sp, dat, dok, sok, q, o⟩ := h
  obtain ⟨dx, hp⟩ := sp.obj
  refine ⟨_, rfl, p, _, dx, _, rfl, hp, T.q_Spot.cl, T.q_Spot.no _ (by decide), by show 9 < 1000; decide, ?_⟩
  exact q _ rfl _ (sp.put (s' := { s with halt := true }) rfl rfl) .at_p
abbrev N_do_before : List Str := ["spot", "deed"]
theorem sc_do_before : FnScope N_do_before ["spot", "deed"] (defScope (top 100)) := ⟨rfl, rfl, rfl, by decide +kernel, rfl, by decide +kernel, by decide +kernel⟩
theorem k_do_before (T : Txt K mg A) : Ok P w K mg base 1 "do_before" (spDo A fun d => ∃ y, d = .before y) := by
  refine ok_mk T.d_do_before sc_do_before (fun vs H Q E ⟨_, _, _, _, _, _, e, _⟩ => by rw [e]; rfl) fun f cdv AA outer s H vs Q E hr tk po h => ⟨_, (pss_one (ps_expr (pe_bm PySem.F.plainAttrs_list PySem.F.slot_list_append PySem.F.type_list_append mt_append (pe_fld (pv 0) rfl) (pa_cons (pe_ix ix_tup (pv 1) pe_int (fun _ _ => rfl)) pa_nil)))), ?_⟩
  obtain ⟨p, a, b, v, s, d, rfl, ⟨y, rfl⟩, sp, dat, dok, sok, q, o⟩ := h
  obtain ⟨dx, hp⟩ := sp.obj
  obtain ⟨n1, n2⟩ := sp.at_ne
  refine ⟨_, rfl, p, _, dx, _, _, rfl, hp, T.q_Spot.cl, T.q_Spot.no _ (by decide), rfl, ?_⟩
  refine ⟨.inl ⟨rfl, _, SqL.of sp.pre⟩, ?_⟩
  refine ⟨_, rfl, v, _, _, _, rfl, rfl, SqT.of dat, at_n (j := 1) rfl rfl, ?_⟩
  refine ⟨a, _, _, rfl, rfl, sp.pre, sz_lt (by rw [List.length_map]; have := sok.pre; omega), ?_⟩
  exact q _ rfl _ ⟨⟨dx, (upd_ne n1).trans hp⟩, by show upd _ a _ a = _; rw [upd_same, List.map_append]; rfl, (upd_ne sp.ne.symm).trans sp.post, sp.ne⟩ .at_a
abbrev N_do_after : List Str := ["spot", "deed"]
theorem sc_do_after : FnScope N_do_after ["spot", "deed"] (defScope (top 101)) := ⟨rfl, rfl, rfl, by decide +kernel, rfl, by decide +kernel, by decide +kernel⟩
theorem k_do_after (T : Txt K mg A) : Ok P w K mg base 1 "do_after" (spDo A fun d => ∃ y, d = .after y) := by
  refine ok_mk T.d_do_after sc_do_after (fun vs H Q E ⟨_, _, _, _, _, _, e, _⟩ => by rw [e]; rfl) fun f cdv AA outer s H vs Q E hr tk po h => ⟨_, (pss_one (ps_expr (pe_bm PySem.F.plainAttrs_list PySem.F.slot_list_append PySem.F.type_list_append mt_append (pe_fld (pv 0) rfl) (pa_cons (pe_ix ix_tup (pv 1) pe_int (fun _ _ => rfl)) pa_nil)))), ?_⟩
  obtain ⟨p, a, b, v, s, d, rfl, ⟨y, rfl⟩, sp, dat, dok, sok, q, o⟩ := h
  obtain ⟨dx, hp⟩ := sp.obj
  obtain ⟨n1, n2⟩ := sp.at_ne
  refine ⟨_, rfl, p, _, dx, _, _, rfl, hp, T.q_Spot.cl, T.q_Spot.no _ (by decide), rfl, ?_⟩
  refine ⟨.inl ⟨rfl, _, SqL.of sp.post⟩, ?_⟩
  refine ⟨_, rfl, v, _, _, _, rfl, rfl, SqT.of dat, at_n (j := 1) rfl rfl, ?_⟩
  refine ⟨b, _, _, rfl, rfl, sp.post, sz_lt (by rw [List.length_map]; have := sok.post; omega), ?_⟩
  exact q _ rfl _ ⟨⟨dx, (upd_ne n2).trans hp⟩, (upd_ne sp.ne).trans sp.pre, by show upd _ b _ b = _; rw [upd_same, List.map_append]; rfl, sp.ne⟩ .at_b
abbrev N_do_bring : List Str := ["spot", "deed"]
theorem sc_do_bring : FnScope N_do_bring ["spot", "deed"] (defScope (top 102)) := ⟨rfl, rfl, rfl, by decide +kernel, rfl, by decide +kernel, by decide +kernel⟩
theorem k_do_bring (T : Txt K mg A) : Ok P w K mg base 1 "do_bring" (spDo A (· = .bring)) := by
  refine ok_mk T.d_do_bring sc_do_bring (fun vs H Q E ⟨_, _, _, _, _, _, e, _⟩ => by rw [e]; rfl) fun f cdv AA outer s H vs Q E hr tk po h => ⟨_, (pss_one (ps_expr (pe_bm PySem.F.plainAttrs_list PySem.F.slot_list_append PySem.F.type_list_append mt_append (pe_fld (pv 0) rfl) (pa_cons (pe_fld (pv 0) rfl) pa_nil)))), ?_⟩
  obtain ⟨p, a, b, v, s, d, rfl, rfl, sp, dat, dok, sok, q, o⟩ := h
  obtain ⟨dx, hp⟩ := sp.obj
  obtain ⟨n1, n2⟩ := sp.at_ne
  refine ⟨_, rfl, p, _, dx, _, _, rfl, hp, T.q_Spot.cl, T.q_Spot.no _ (by decide), rfl, ?_⟩
  refine ⟨.inl ⟨rfl, _, SqL.of sp.post⟩, ?_⟩
  refine ⟨_, rfl, p, _, dx, _, _, rfl, hp, T.q_Spot.cl, T.q_Spot.no _ (by decide), rfl, ?_⟩
  refine ⟨b, _, _, rfl, rfl, sp.post, sz_lt (by rw [List.length_map]; have := sok.post; omega), ?_⟩
  exact q _ rfl _ ⟨⟨dx, (upd_ne n2).trans hp⟩, (upd_ne sp.ne).trans sp.pre, by show upd _ b _ b = _; rw [upd_same, List.map_append]; rfl, sp.ne⟩ .at_b
abbrev N_do_change : List Str := ["spot", "deed"]
theorem sc_do_change : FnScope N_do_change ["spot", "deed"] (defScope (top 103)) := ⟨rfl, rfl, rfl, by decide +kernel, rfl, by decide +kernel, by decide +kernel⟩
theorem k_do_change (T : Txt K mg A) : Ok P w K mg base 1 "do_change" (spDo A fun d => ∃ y, d = .change y) := by
  refine ok_mk T.d_do_change sc_do_change (fun vs H Q E ⟨_, _, _, _, _, _, e, _⟩ => by rw [e]; rfl) fun f cdv AA outer s H vs Q E hr tk po h => ⟨_, (pss_one (ps_fld (pv 0) (pe_ix ix_tup (pv 1) pe_int (fun _ _ => rfl)) rfl)), ?_⟩
  obtain ⟨p, a, b, v, s, d, rfl, ⟨y, rfl⟩, sp, dat, dok, sok, q, o⟩ := h
  obtain ⟨dx, hp⟩ := sp.obj
  refine ⟨_, rfl, v, _, _, _, rfl, rfl, SqT.of dat, at_n (j := 1) rfl rfl, ?_⟩
  refine ⟨_, rfl, p, _, dx, _, rfl, hp, T.q_Spot.cl, T.q_Spot.no _ (by decide), by show 9 < 1000; decide, ?_⟩
  exact q _ rfl _ (sp.put (s' := { s with x := y }) rfl rfl) .at_p
abbrev N_do_keep : List Str := ["spot", "deed"]
theorem sc_do_keep : FnScope N_do_keep ["spot", "deed"] (defScope (top 106)) := ⟨rfl, rfl, rfl, by decide +kernel, rfl, by decide +kernel, by decide +kernel⟩
theorem k_do_keep (T : Txt K mg A) : Ok P w K mg base 1 "do_keep" (spDo A (· = .keep)) := by
  refine ok_mk T.d_do_keep sc_do_keep (fun vs H Q E ⟨_, _, _, _, _, _, e, _⟩ => by rw [e]; rfl) fun f cdv AA outer s H vs Q E hr tk po h => ⟨_, (pss_one (ps_fld (pv 0) (pe_fld (pv 0) rfl) rfl)), ?_⟩
  obtain ⟨p, a, b, v, s, d, rfl, rfl, sp, dat, dok, sok, q, o⟩ := h
  obtain ⟨dx, hp⟩ := sp.obj
  refine ⟨_, rfl, p, _, dx, _, _, rfl, hp, T.q_Spot.cl, T.q_Spot.no _ (by decide), rfl, ?_⟩
  refine ⟨_, rfl, p, _, dx, _, rfl, hp, T.q_Spot.cl, T.q_Spot.no _ (by decide), by show 9 < 1000; decide, ?_⟩
  exact q _ rfl _ (sp.put (s' := { s with held := s.x }) rfl rfl) .at_p
abbrev N_do_trade : List Str := ["spot", "deed", "line"]
theorem sc_do_trade : FnScope N_do_trade ["spot", "deed"] (defScope (top 107)) := ⟨rfl, rfl, rfl, by decide +kernel, rfl, by decide +kernel, by decide +kernel⟩
theorem k_do_trade (T : Txt K mg A) : Ok P w K mg base 1 "do_trade" (spDo A (· = .trade)) := by
  refine ok_mk T.d_do_trade sc_do_trade (fun vs H Q E ⟨_, _, _, _, _, _, e, _⟩ => by rw [e]; rfl) fun f cdv AA outer s H vs Q E hr tk po h => ⟨_, (pss_cons (ps_set (i := 2) sc_do_trade.nd rfl (Or.inl rfl) (pe_fld (pv 0) rfl))
    (pss_cons (ps_fld (pv 0) (pe_fld (pv 0) rfl) rfl)
    (pss_one (ps_fld (pv 0) (pv 2) rfl)))), ?_⟩
  obtain ⟨p, a, b, v, s, d, rfl, rfl, sp, dat, dok, sok, q, o⟩ := h
  obtain ⟨dx, hp⟩ := sp.obj
  refine ⟨_, rfl, p, _, dx, _, _, rfl, hp, T.q_Spot.cl, T.q_Spot.no _ (by decide), rfl, ?_⟩
  refine ⟨_, rfl, p, _, dx, _, _, rfl, hp, T.q_Spot.cl, T.q_Spot.no _ (by decide), rfl, ?_⟩
  refine ⟨_, rfl, p, _, dx, _, rfl, hp, T.q_Spot.cl, T.q_Spot.no _ (by decide), by show 9 < 1000; decide, ?_⟩
  refine ⟨_, rfl, _, rfl, p, _, dx, _, rfl, upd_same, T.q_Spot.cl, T.q_Spot.no _ (by decide), by show 9 < 1000; decide, ?_⟩
  rw [upd_upd]
  exact q _ rfl _ (sp.put (s' := { s with x := s.held, held := s.x }) rfl rfl) .at_p
abbrev N_do_skip : List Str := ["spot", "deed"]
theorem sc_do_skip : FnScope N_do_skip ["spot", "deed"] (defScope (top 108)) := ⟨rfl, rfl, rfl, by decide +kernel, rfl, by decide +kernel, by decide +kernel⟩
theorem k_do_skip (T : Txt K mg A) : Ok P w K mg base 1 "do_skip" (spDo A fun d => ∃ n, d = .skip n) := by
  refine ok_mk T.d_do_skip sc_do_skip (fun vs H Q E ⟨_, _, _, _, _, _, e, _⟩ => by rw [e]; rfl) fun f cdv AA outer s H vs Q E hr tk po h => ⟨_, (pss_one (ps_fld (pv 0) (pe_ix ix_tup (pv 1) pe_int (fun _ _ => rfl)) rfl)), ?_⟩
  obtain ⟨p, a, b, v, s, d, rfl, ⟨n, rfl⟩, sp, dat, dok, sok, q, o⟩ := h
  obtain ⟨dx, hp⟩ := sp.obj
  refine ⟨_, rfl, v, _, _, _, rfl, rfl, SqT.of dat, at_n (j := 1) rfl rfl, ?_⟩
  refine ⟨_, rfl, p, _, dx, _, rfl, hp, T.q_Spot.cl, T.q_Spot.no _ (by decide), by show 9 < 1000; decide, ?_⟩
  exact q _ rfl _ (sp.put (s' := { s with left := n }) rfl rfl) .at_p
/-- set_swapped -/
def spSetSwapped (A : Ad) : Sp := fun vs H Q E => ∃ (p a b : Addr) (s : Sp0) (y : Line), vs = [.ref p, sV y] ∧ SpotAt A H p a b s ∧ y.length ≤ 1000000 ∧
  (y.length ≤ 16 → ∀ H', SpotAt A H' p a b { s with x := y } → But3 p a b H H' → Q .non H') ∧ (16 < y.length → Out3 A E p a b H)
abbrev N_set_swapped : List Str := ["spot", "line"]
theorem sc_set_swapped : FnScope N_set_swapped ["spot", "line"] (defScope (top 97)) := ⟨rfl, rfl, rfl, by decide +kernel, rfl, by decide +kernel, by decide +kernel⟩
theorem k_set_swapped (T : Txt K mg A) : Ok P w K mg base 4 "set_swapped" (spSetSwapped A) := by
  refine ok_mk T.d_set_swapped sc_set_swapped (fun vs H Q E ⟨_, _, _, _, _, e, _⟩ => by rw [e]; rfl) fun f cdv AA outer s H vs Q E hr tk po h => ⟨_, (pss_cons (ps_if (pt_cmpR op_gt (pe_lenT T.b_len (pv 1)) (pe_gv T.c_MOST_LETTERS) (nomark _)) (pss_one (ps_raise rfl tk (pmk_ex0 (xk_TooMuch T) hr))) pss_nil)
    (pss_one (ps_fld (pv 0) (pv 1) rfl))), ?_⟩
  obtain ⟨p, a, b, s, y, rfl, sp, hy, q, o⟩ := h
  obtain ⟨dx, hp⟩ := sp.obj
  have yl := toS_len y
  refine ⟨_, rfl, _, rfl, by rw [yl]; exact sz16 (by omega), ?_⟩
  refine ⟨_, _, rfl, rfl, _, rfl, if_2 (fun k => ?_) fun k => ?_⟩
  · have k := of_decide_eq_true k
    exact raise0 T.x_TooMuch (o (by omega)).out
  · have k := of_decide_eq_false k
    refine ⟨_, rfl, _, rfl, p, _, dx, _, rfl, hp, T.q_Spot.cl, T.q_Spot.no _ (by decide), by show 9 < 1000; decide, ?_⟩
    exact q (by omega) _ (sp.put (s' := { s with x := y }) rfl rfl) .at_p
end
end Lp
set_option maxRecDepth 100000
set_option maxHeartbeats 2000000
namespace Lp
open PySem PySem.Spec PyProof.Rows L2
open VasedBase (Bytes word)
open Vaseda (Line Text Deed swapIn)
theorem swapBy_len (a b : Bytes) (once : Bool) (ha : a ≠ []) : ∀ (n : Nat) (x : Bytes), (Vaseda.swapBy a b once n x).length ≤ x.length * (b.length + 1)
  | 0, x => Nat.le_mul_of_pos_right _ (Nat.succ_pos _)
  | n + 1, [] => Nat.zero_le _
  | n + 1, c :: r => by
    unfold Vaseda.swapBy
    dsimp only
    have h1 : 1 ≤ a.length := List.length_pos_iff.mpr ha
    have hd : ((c :: r).drop a.length).length ≤ r.length := by rw [List.length_drop, List.length_cons]; omega
    have e : (c :: r).length * (b.length + 1) = r.length * (b.length + 1) + (b.length + 1) := by rw [List.length_cons, Nat.succ_mul]
    split
    · rw [List.length_append, e]
      split
      · have := Nat.le_mul_of_pos_right r.length (Nat.succ_pos b.length)
        have h2 : b.length.succ = b.length + 1 := rfl
        rw [h2] at this
        omega
      · have h3 := swapBy_len a b once ha n ((c :: r).drop a.length)
        have h4 := Nat.mul_le_mul_right (b.length + 1) hd
        omega
    · rw [List.length_cons, e]
      have := swapBy_len a b once ha n r
      omega
section
variable {P : Program} {w : World} {K : PySem.W.Frag} {mg : Str → Option Value} {base : Heap} {A : Ad}
theorem swap_small {x a b : Bytes} {once : Bool} (ha : a ≠ []) (hx : x.length ≤ 16) (hb : b.length ≤ 8) : (swapIn a b once x).length ≤ 1000000 := by
  have h := swapBy_len a b once ha (x.length + 1) x
  have h2 : x.length * (b.length + 1) ≤ 16 * 9 := Nat.mul_le_mul hx (by omega)
  show (Vaseda.swapBy a b once (x.length + 1) x).length ≤ _
  omega
theorem fit_small {x b : Bytes} (hx : x.length ≤ 16) (hb : b.length ≤ 8) : (toS x).length + ((toS x).length + 1) * (toS b).length ≤ 16777216 := by
  rw [toS_len, toS_len]
  have : (x.length + 1) * b.length ≤ 17 * 8 := Nat.mul_le_mul (by omega) hb
  omega
abbrev N_do_swap : List Str := ["spot", "deed"]
theorem sc_do_swap : FnScope N_do_swap ["spot", "deed"] (defScope (top 104)) := ⟨rfl, rfl, rfl, by decide +kernel, rfl, by decide +kernel, by decide +kernel⟩
theorem k_do_swap (T : Txt K mg A) : Ok P w K mg base 5 "do_swap" (spDo A fun d => ∃ a b, d = .swap a b) := by
  refine ok_mk T.d_do_swap sc_do_swap (fun vs H Q E ⟨_, _, _, _, _, _, e, _⟩ => by rw [e]; rfl) fun f cdv AA outer s H vs Q E hr tk po h => ⟨_, (pss_one (ps_expr (pe_k (k_set_swapped T) hr tk (pa_cons (pv 0) (pa_cons (pe_repD T.nb (pe_fld (pv 0) rfl) (par_cons (pr_dix (ip := 1) (k := 1) rfl (.inl rfl) (fun _ _ => rfl)) (par_cons (pr_dix (ip := 1) (k := 2) rfl (.inl rfl) (fun _ _ => rfl)) par_nil))) pa_nil))))), ?_⟩
  obtain ⟨p, a, b, v, s, d, rfl, ⟨y, z, rfl⟩, sp, dat, ⟨hy, hz⟩, sok, q, o⟩ := h
  obtain ⟨dx, hp⟩ := sp.obj
  obtain ⟨ob, uk, t, u, n, hv, oc, od, t0, u0, tu⟩ := dat
  refine ⟨_, rfl, _, rfl, p, _, dx, _, _, rfl, hp, T.q_Spot.cl, T.q_Spot.no _ (by decide), rfl, ⟨_, rfl⟩, fun y1 => ?_⟩
  refine ⟨v, ob, _, n, _, _, rfl, hv, oc, od, rfl, by show 3 ≤ 1000; decide, fun y2 l2 => ?_⟩
  refine ⟨v, ob, _, n, _, _, rfl, hv, oc, od, rfl, by show 3 ≤ 1000; decide, fun y3 l3 => ?_⟩
  refine ⟨_, toS (swapIn y z false s.x), rfl, ⟨toS y, toS z, t, u, by rw [toS_len]; exact List.length_pos_iff.mpr hy, t0, u0, tu, fit_small sok.x hz, .inl ⟨rfl, (txt_all hy).symm⟩⟩, ?_⟩
  refine ⟨p, a, b, s, swapIn y z false s.x, rfl, sp, swap_small hy sok.x hz, fun h => q _ (if_neg (by omega)), fun h => o (if_pos h)⟩
abbrev N_do_first : List Str := ["spot", "deed"]
theorem sc_do_first : FnScope N_do_first ["spot", "deed"] (defScope (top 105)) := ⟨rfl, rfl, rfl, by decide +kernel, rfl, by decide +kernel, by decide +kernel⟩
theorem k_do_first (T : Txt K mg A) : Ok P w K mg base 5 "do_first" (spDo A fun d => ∃ a b, d = .first a b) := by
  refine ok_mk T.d_do_first sc_do_first (fun vs H Q E ⟨_, _, _, _, _, _, e, _⟩ => by rw [e]; rfl) fun f cdv AA outer s H vs Q E hr tk po h => ⟨_, (pss_one (ps_expr (pe_k (k_set_swapped T) hr tk (pa_cons (pv 0) (pa_cons (pe_repD T.nb (pe_fld (pv 0) rfl) (par_cons (pr_dix (ip := 1) (k := 1) rfl (.inl rfl) (fun _ _ => rfl)) (par_cons (pr_dix (ip := 1) (k := 2) rfl (.inl rfl) (fun _ _ => rfl)) (par_cons pr_int par_nil)))) pa_nil))))), ?_⟩
  obtain ⟨p, a, b, v, s, d, rfl, ⟨y, z, rfl⟩, sp, dat, ⟨hy, hz⟩, sok, q, o⟩ := h
  obtain ⟨dx, hp⟩ := sp.obj
  obtain ⟨ob, uk, t, u, n, hv, oc, od, t0, u0, tu⟩ := dat
  refine ⟨_, rfl, _, rfl, p, _, dx, _, _, rfl, hp, T.q_Spot.cl, T.q_Spot.no _ (by decide), rfl, ⟨_, rfl⟩, fun y1 => ?_⟩
  refine ⟨v, ob, _, n, _, _, rfl, hv, oc, od, rfl, by show 3 ≤ 1000; decide, fun y2 l2 => ?_⟩
  refine ⟨v, ob, _, n, _, _, rfl, hv, oc, od, rfl, by show 3 ≤ 1000; decide, fun y3 l3 => ?_⟩
  intro u3 y4 r3 e4
  obtain ⟨t3, rfl⟩ := r3
  refine ⟨_, toS (swapIn y z true s.x), rfl, ⟨toS y, toS z, t, u, by rw [toS_len]; exact List.length_pos_iff.mpr hy, t0, u0, tu, fit_small sok.x hz, .inr ⟨t3, rfl, (txt_once hy).symm⟩⟩, ?_⟩
  refine ⟨p, a, b, s, swapIn y z true s.x, rfl, sp, swap_small hy sok.x hz, fun h => q _ (if_neg (by omega)), fun h => o (if_pos h)⟩
end
end Lp
set_option maxRecDepth 100000
set_option maxHeartbeats 4000000
namespace Lp
open PySem PySem.Spec PyProof.Rows L2
open VasedBase (Bytes word)
open Vaseda (Line Text Deed)
def depth : Vaseda.Addr → Nat
  | .not a => depth a + 1
  | _ => 0
section
variable {P : Program} {w : World} {K : PySem.W.Frag} {mg : Str → Option Value} {base : Heap} {A : Ad}
def spHolds (A : Ad) (n : Nat) : Sp := fun vs H Q _ => ∃ (v p aa bb : Addr) (a : Vaseda.Addr) (s : Sp0), vs = [.ref v, .ref p] ∧ AddrAt H a v ∧ SpotAt A H p aa bb s ∧ depth a ≤ n ∧ Q (.bl (Vaseda.holds s.k s.last s.x a)) H
abbrev N_holds : List Str := ["address", "spot", "word"]
theorem sc_holds : FnScope N_holds ["address", "spot"] (defScope (top 96)) := ⟨rfl, rfl, rfl, by decide +kernel, rfl, by decide +kernel, by decide +kernel⟩
theorem k_holds0 (T : Txt K mg A) : Ok P w K mg base 1 "holds" (spHolds A 0) := by
  refine ok_mk T.d_holds sc_holds (fun vs H Q E ⟨_, _, _, _, _, _, e, _⟩ => by rw [e]; rfl) fun f cdv AA outer s H vs Q E hr tk po h => ⟨_, (pss_cons (ps_set (i := 2) sc_holds.nd rfl (Or.inl rfl) (pe_ix ix_tup (pv 0) pe_int (fun _ _ => rfl)))
    (pss_cons (ps_if (pt_cmpR op_eq (pv 2) pe_str (nomark _)) pss_never pss_nil)
    (pss_cons (ps_if (pt_cmpR op_eq (pv 2) pe_str (nomark _)) (pss_one (ps_ret (pe_cmpR op_eq (pe_fld (pv 1) rfl) (pe_ix ix_tup (pv 0) pe_int (fun _ _ => rfl)) (nomark _)))) pss_nil)
    (pss_cons (ps_if (pt_cmpR op_eq (pv 2) pe_str (nomark _)) (pss_one (ps_ret (pe_chain op_le op_le (pe_ix ix_tup (pv 0) pe_int (fun _ _ => rfl)) (pe_fld (pv 1) rfl) (pe_ix ix_tup (pv 0) pe_int (fun _ _ => rfl))))) pss_nil)
    (pss_cons (ps_if (pt_cmpR op_eq (pv 2) pe_str (nomark _)) (pss_one (ps_ret (pe_fld (pv 1) rfl))) pss_nil)
    (pss_cons (ps_if (pt_cmpR op_eq (pv 2) pe_str (nomark _)) (pss_one (ps_ret (pe_cmpR op_in_str (pe_ix ix_tup (pv 0) pe_int (fun _ _ => rfl)) (pe_fld (pv 1) rfl) rfl))) pss_nil)
    (pss_cons (ps_if (pt_cmpR op_eq (pv 2) pe_str (nomark _)) (pss_one (ps_ret (pe_cmpR op_eq (pe_ix ix_tup (pv 0) pe_int (fun _ _ => rfl)) (pe_fld (pv 1) rfl) (nomark _)))) pss_nil)
    (pss_one (ps_ret pe_bl))))))))), ?_⟩
  obtain ⟨v, p, aa, bb, a, s, rfl, av, sp, hd, q⟩ := h
  obtain ⟨dx, hp⟩ := sp.obj
  cases a with
  | all =>
    have av : H v = _ := av
    refine ⟨_, rfl, v, _, _, _, rfl, rfl, SqT.of av, at_n (j := 0) rfl rfl, ?_⟩
    refine ⟨_, rfl, rfl, _, rfl, if_f (by decide +kernel) ?_⟩
    refine ⟨_, rfl, rfl, _, rfl, if_f (by decide +kernel) ?_⟩
    refine ⟨_, rfl, rfl, _, rfl, if_f (by decide +kernel) ?_⟩
    refine ⟨_, rfl, rfl, _, rfl, if_f (by decide +kernel) ?_⟩
    refine ⟨_, rfl, rfl, _, rfl, if_f (by decide +kernel) ?_⟩
    refine ⟨_, rfl, rfl, _, rfl, if_f (by decide +kernel) ?_⟩
    exact q
  | line n =>
    have av : H v = _ := av
    refine ⟨_, rfl, v, _, _, _, rfl, rfl, SqT.of av, at_n (j := 0) rfl rfl, ?_⟩
    refine ⟨_, rfl, rfl, _, rfl, if_f (by decide +kernel) ?_⟩
    refine ⟨_, rfl, rfl, _, rfl, if_t (by decide +kernel) ?_⟩
    refine ⟨_, rfl, p, _, dx, _, _, rfl, hp, T.q_Spot.cl, T.q_Spot.no _ (by decide), rfl, ?_⟩
    refine ⟨_, rfl, v, _, _, _, rfl, rfl, SqT.of av, at_n (j := 1) rfl rfl, rfl, ?_⟩
    rw [show decide (V.int (s.k : Int) = V.int (n : Int)) = (s.k == n) from by
      rw [Bool.eq_iff_iff, decide_eq_true_iff, beq_iff_eq]
      exact ⟨fun e => by have := V.int.inj e; omega, fun e => by rw [e]⟩]
    exact q
  | span n m =>
    have av : H v = _ := av
    refine ⟨_, rfl, v, _, _, _, rfl, rfl, SqT.of av, at_n (j := 0) rfl rfl, ?_⟩
    refine ⟨_, rfl, rfl, _, rfl, if_f (by decide +kernel) ?_⟩
    refine ⟨_, rfl, rfl, _, rfl, if_f (by decide +kernel) ?_⟩
    refine ⟨_, rfl, rfl, _, rfl, if_t (by decide +kernel) ?_⟩
    refine ⟨_, rfl, v, _, _, _, rfl, rfl, SqT.of av, at_n (j := 1) rfl rfl, ?_⟩
    refine ⟨_, rfl, p, _, dx, _, _, rfl, hp, T.q_Spot.cl, T.q_Spot.no _ (by decide), rfl, ?_⟩
    refine ⟨_, _, rfl, rfl, _, rfl, ?_⟩
    have q : Q (.bl (decide (n ≤ s.k ∧ s.k ≤ m))) H := q
    rw [Bool.decide_and] at q
    refine if_2 (fun c => ?_) fun c => ?_
    · have c := of_decide_eq_true c
      rw [decide_eq_true (show n ≤ s.k by omega), Bool.true_and] at q
      refine ⟨_, rfl, v, _, _, _, rfl, rfl, SqT.of av, at_n (j := 2) rfl rfl, ?_⟩
      refine ⟨_, _, rfl, rfl, ?_⟩
      rw [show decide (s.k ≤ m) = decide ((s.k : Int) ≤ (m : Int)) from decide_eq_decide.mpr (by omega)] at q
      exact q
    · have c := of_decide_eq_false c
      rw [decide_eq_false (show ¬ n ≤ s.k by omega), Bool.false_and] at q
      exact q
  | last =>
    have av : H v = _ := av
    refine ⟨_, rfl, v, _, _, _, rfl, rfl, SqT.of av, at_n (j := 0) rfl rfl, ?_⟩
    refine ⟨_, rfl, rfl, _, rfl, if_f (by decide +kernel) ?_⟩
    refine ⟨_, rfl, rfl, _, rfl, if_f (by decide +kernel) ?_⟩
    refine ⟨_, rfl, rfl, _, rfl, if_f (by decide +kernel) ?_⟩
    refine ⟨_, rfl, rfl, _, rfl, if_t (by decide +kernel) ?_⟩
    refine ⟨_, rfl, p, _, dx, _, _, rfl, hp, T.q_Spot.cl, T.q_Spot.no _ (by decide), rfl, ?_⟩
    exact q
  | has x =>
    have av : H v = _ := av
    refine ⟨_, rfl, v, _, _, _, rfl, rfl, SqT.of av, at_n (j := 0) rfl rfl, ?_⟩
    refine ⟨_, rfl, rfl, _, rfl, if_f (by decide +kernel) ?_⟩
    refine ⟨_, rfl, rfl, _, rfl, if_f (by decide +kernel) ?_⟩
    refine ⟨_, rfl, rfl, _, rfl, if_f (by decide +kernel) ?_⟩
    refine ⟨_, rfl, rfl, _, rfl, if_f (by decide +kernel) ?_⟩
    refine ⟨_, rfl, rfl, _, rfl, if_t (by decide +kernel) ?_⟩
    refine ⟨_, rfl, v, _, _, _, rfl, rfl, SqT.of av, at_n (j := 1) rfl rfl, ?_⟩
    refine ⟨_, rfl, p, _, dx, _, _, rfl, hp, T.q_Spot.cl, T.q_Spot.no _ (by decide), rfl, _, _, rfl, rfl, ?_⟩
    rw [has_is]
    exact q
  | is_ x =>
    have av : H v = _ := av
    refine ⟨_, rfl, v, _, _, _, rfl, rfl, SqT.of av, at_n (j := 0) rfl rfl, ?_⟩
    refine ⟨_, rfl, rfl, _, rfl, if_f (by decide +kernel) ?_⟩
    refine ⟨_, rfl, rfl, _, rfl, if_f (by decide +kernel) ?_⟩
    refine ⟨_, rfl, rfl, _, rfl, if_f (by decide +kernel) ?_⟩
    refine ⟨_, rfl, rfl, _, rfl, if_f (by decide +kernel) ?_⟩
    refine ⟨_, rfl, rfl, _, rfl, if_f (by decide +kernel) ?_⟩
    refine ⟨_, rfl, rfl, _, rfl, if_t (by decide +kernel) ?_⟩
    refine ⟨_, rfl, v, _, _, _, rfl, rfl, SqT.of av, at_n (j := 1) rfl rfl, ?_⟩
    refine ⟨_, rfl, p, _, dx, _, _, rfl, hp, T.q_Spot.cl, T.q_Spot.no _ (by decide), rfl, rfl, ?_⟩
    rw [show decide (sV x = sV s.x) = (s.x == x) from by
      rw [Bool.eq_iff_iff, decide_eq_true_iff, beq_iff_eq]
      exact ⟨fun e => (sV_inj e).symm, fun e => by rw [e]⟩]
    exact q
  | not a =>
    exact absurd hd (Nat.not_succ_le_zero _)

theorem k_holds (T : Txt K mg A) : ∀ n, Ok P w K mg base (n + 1) "holds" (spHolds A n)
  | 0 => k_holds0 T
  | n + 1 => by
    refine ok_mk T.d_holds sc_holds (fun vs H Q E ⟨_, _, _, _, _, _, e, _⟩ => by rw [e]; rfl) fun f cdv AA outer s H vs Q E hr tk po h => ⟨_, (pss_cons (ps_set (i := 2) sc_holds.nd rfl (Or.inl rfl) (pe_ix ix_tup (pv 0) pe_int (fun _ _ => rfl)))
    (pss_cons (ps_if (pt_cmpR op_eq (pv 2) pe_str (nomark _)) (pss_one (ps_ret (pe_not (pe_k (k_holds T n) hr tk (pa_cons (pe_ix ix_tup (pv 0) pe_int (fun _ _ => rfl)) (pa_cons (pv 1) pa_nil)) (Nat.le_refl _))))) pss_nil)
    (pss_cons (ps_if (pt_cmpR op_eq (pv 2) pe_str (nomark _)) (pss_one (ps_ret (pe_cmpR op_eq (pe_fld (pv 1) rfl) (pe_ix ix_tup (pv 0) pe_int (fun _ _ => rfl)) (nomark _)))) pss_nil)
    (pss_cons (ps_if (pt_cmpR op_eq (pv 2) pe_str (nomark _)) (pss_one (ps_ret (pe_chain op_le op_le (pe_ix ix_tup (pv 0) pe_int (fun _ _ => rfl)) (pe_fld (pv 1) rfl) (pe_ix ix_tup (pv 0) pe_int (fun _ _ => rfl))))) pss_nil)
    (pss_cons (ps_if (pt_cmpR op_eq (pv 2) pe_str (nomark _)) (pss_one (ps_ret (pe_fld (pv 1) rfl))) pss_nil)
    (pss_cons (ps_if (pt_cmpR op_eq (pv 2) pe_str (nomark _)) (pss_one (ps_ret (pe_cmpR op_in_str (pe_ix ix_tup (pv 0) pe_int (fun _ _ => rfl)) (pe_fld (pv 1) rfl) rfl))) pss_nil)
    (pss_cons (ps_if (pt_cmpR op_eq (pv 2) pe_str (nomark _)) (pss_one (ps_ret (pe_cmpR op_eq (pe_ix ix_tup (pv 0) pe_int (fun _ _ => rfl)) (pe_fld (pv 1) rfl) (nomark _)))) pss_nil)
    (pss_one (ps_ret pe_bl))))))))), ?_⟩
    obtain ⟨v, p, aa, bb, a, s, rfl, av, sp, hd, q⟩ := h
    obtain ⟨dx, hp⟩ := sp.obj
    cases a with
    | all =>
      have av : H v = _ := av
      refine ⟨_, rfl, v, _, _, _, rfl, rfl, SqT.of av, at_n (j := 0) rfl rfl, ?_⟩
      refine ⟨_, rfl, rfl, _, rfl, if_f (by decide +kernel) ?_⟩
      refine ⟨_, rfl, rfl, _, rfl, if_f (by decide +kernel) ?_⟩
      refine ⟨_, rfl, rfl, _, rfl, if_f (by decide +kernel) ?_⟩
      refine ⟨_, rfl, rfl, _, rfl, if_f (by decide +kernel) ?_⟩
      refine ⟨_, rfl, rfl, _, rfl, if_f (by decide +kernel) ?_⟩
      refine ⟨_, rfl, rfl, _, rfl, if_f (by decide +kernel) ?_⟩
      exact q
    | line n =>
      have av : H v = _ := av
      refine ⟨_, rfl, v, _, _, _, rfl, rfl, SqT.of av, at_n (j := 0) rfl rfl, ?_⟩
      refine ⟨_, rfl, rfl, _, rfl, if_f (by decide +kernel) ?_⟩
      refine ⟨_, rfl, rfl, _, rfl, if_t (by decide +kernel) ?_⟩
      refine ⟨_, rfl, p, _, dx, _, _, rfl, hp, T.q_Spot.cl, T.q_Spot.no _ (by decide), rfl, ?_⟩
      refine ⟨_, rfl, v, _, _, _, rfl, rfl, SqT.of av, at_n (j := 1) rfl rfl, rfl, ?_⟩
      rw [show decide (V.int (s.k : Int) = V.int (n : Int)) = (s.k == n) from by
        rw [Bool.eq_iff_iff, decide_eq_true_iff, beq_iff_eq]
        exact ⟨fun e => by have := V.int.inj e; omega, fun e => by rw [e]⟩]
      exact q
    | span n m =>
      have av : H v = _ := av
      refine ⟨_, rfl, v, _, _, _, rfl, rfl, SqT.of av, at_n (j := 0) rfl rfl, ?_⟩
      refine ⟨_, rfl, rfl, _, rfl, if_f (by decide +kernel) ?_⟩
      refine ⟨_, rfl, rfl, _, rfl, if_f (by decide +kernel) ?_⟩
      refine ⟨_, rfl, rfl, _, rfl, if_t (by decide +kernel) ?_⟩
      refine ⟨_, rfl, v, _, _, _, rfl, rfl, SqT.of av, at_n (j := 1) rfl rfl, ?_⟩
      refine ⟨_, rfl, p, _, dx, _, _, rfl, hp, T.q_Spot.cl, T.q_Spot.no _ (by decide), rfl, ?_⟩
      refine ⟨_, _, rfl, rfl, _, rfl, ?_⟩
      have q : Q (.bl (decide (n ≤ s.k ∧ s.k ≤ m))) H := q
      rw [Bool.decide_and] at q
      refine if_2 (fun c => ?_) fun c => ?_
      · have c := of_decide_eq_true c
        rw [decide_eq_true (show n ≤ s.k by omega), Bool.true_and] at q
        refine ⟨_, rfl, v, _, _, _, rfl, rfl, SqT.of av, at_n (j := 2) rfl rfl, ?_⟩
        refine ⟨_, _, rfl, rfl, ?_⟩
        rw [show decide (s.k ≤ m) = decide ((s.k : Int) ≤ (m : Int)) from decide_eq_decide.mpr (by omega)] at q
        exact q
      · have c := of_decide_eq_false c
        rw [decide_eq_false (show ¬ n ≤ s.k by omega), Bool.false_and] at q
        exact q
    | last =>
      have av : H v = _ := av
      refine ⟨_, rfl, v, _, _, _, rfl, rfl, SqT.of av, at_n (j := 0) rfl rfl, ?_⟩
      refine ⟨_, rfl, rfl, _, rfl, if_f (by decide +kernel) ?_⟩
      refine ⟨_, rfl, rfl, _, rfl, if_f (by decide +kernel) ?_⟩
      refine ⟨_, rfl, rfl, _, rfl, if_f (by decide +kernel) ?_⟩
      refine ⟨_, rfl, rfl, _, rfl, if_t (by decide +kernel) ?_⟩
      refine ⟨_, rfl, p, _, dx, _, _, rfl, hp, T.q_Spot.cl, T.q_Spot.no _ (by decide), rfl, ?_⟩
      exact q
    | has x =>
      have av : H v = _ := av
      refine ⟨_, rfl, v, _, _, _, rfl, rfl, SqT.of av, at_n (j := 0) rfl rfl, ?_⟩
      refine ⟨_, rfl, rfl, _, rfl, if_f (by decide +kernel) ?_⟩
      refine ⟨_, rfl, rfl, _, rfl, if_f (by decide +kernel) ?_⟩
      refine ⟨_, rfl, rfl, _, rfl, if_f (by decide +kernel) ?_⟩
      refine ⟨_, rfl, rfl, _, rfl, if_f (by decide +kernel) ?_⟩
      refine ⟨_, rfl, rfl, _, rfl, if_t (by decide +kernel) ?_⟩
      refine ⟨_, rfl, v, _, _, _, rfl, rfl, SqT.of av, at_n (j := 1) rfl rfl, ?_⟩
      refine ⟨_, rfl, p, _, dx, _, _, rfl, hp, T.q_Spot.cl, T.q_Spot.no _ (by decide), rfl, _, _, rfl, rfl, ?_⟩
      rw [has_is]
      exact q
    | is_ x =>
      have av : H v = _ := av
      refine ⟨_, rfl, v, _, _, _, rfl, rfl, SqT.of av, at_n (j := 0) rfl rfl, ?_⟩
      refine ⟨_, rfl, rfl, _, rfl, if_f (by decide +kernel) ?_⟩
      refine ⟨_, rfl, rfl, _, rfl, if_f (by decide +kernel) ?_⟩
      refine ⟨_, rfl, rfl, _, rfl, if_f (by decide +kernel) ?_⟩
      refine ⟨_, rfl, rfl, _, rfl, if_f (by decide +kernel) ?_⟩
      refine ⟨_, rfl, rfl, _, rfl, if_f (by decide +kernel) ?_⟩
      refine ⟨_, rfl, rfl, _, rfl, if_t (by decide +kernel) ?_⟩
      refine ⟨_, rfl, v, _, _, _, rfl, rfl, SqT.of av, at_n (j := 1) rfl rfl, ?_⟩
      refine ⟨_, rfl, p, _, dx, _, _, rfl, hp, T.q_Spot.cl, T.q_Spot.no _ (by decide), rfl, rfl, ?_⟩
      rw [show decide (sV x = sV s.x) = (s.x == x) from by
        rw [Bool.eq_iff_iff, decide_eq_true_iff, beq_iff_eq]
        exact ⟨fun e => (sV_inj e).symm, fun e => by rw [e]⟩]
      exact q
    | not a =>
      obtain ⟨c, av, ac⟩ := av
      refine ⟨_, rfl, v, _, _, _, rfl, rfl, SqT.of av, at_n (j := 0) rfl rfl, ?_⟩
      refine ⟨_, rfl, rfl, _, rfl, if_t (by decide +kernel) ?_⟩
      refine ⟨_, rfl, v, _, _, _, rfl, rfl, SqT.of av, at_n (j := 1) rfl rfl, ?_⟩
      exact ⟨_, rfl, c, p, aa, bb, a, s, rfl, ac, sp, Nat.le_of_succ_le_succ hd, _, rfl, q⟩

end
end Lp
set_option maxRecDepth 100000
set_option maxHeartbeats 2000000
namespace Lp
open PySem PySem.Spec PyProof.Rows L2
open VasedBase (Bytes word)
open Vaseda (Line Text Deed Cmd Script)
/-- of several defs that a slot may hold -/
structure HeldX (P : Program) (w : World) (K : PySem.W.Frag) (mg : Str → Option Value) (base : Heap) (k : Nat) (f : Addr) (sp : Sp) : Prop where
  ex : ∃ (fd : FuncData) (ps : List Str), FnOk P w K mg base (L2.CX P w) k f fd ps sp ∧ PySem.W.keepIn K (.ref f) = true ∧ Binds K fd ps []
theorem Ok.heldX {P : Program} {w : World} {K : PySem.W.Frag} {mg : Str → Option Value} {base : Heap} {k j : Nat} {x : Str} {f : Addr} {sp : Sp} (c : Ok P w K mg base k x sp) (hm : mg x = some (.ref f)) (hk : k ≤ j) : HeldX P w K mg base j f sp := by
  obtain ⟨g, fd, ps, F, hm', kp, b⟩ := c.ex
  rw [hm] at hm'
  cases hm'
  exact ⟨fd, ps, F.mono hk, kp, b⟩
def tCallH (P : Program) (w : World) (K : PySem.W.Frag) (mg : Str → Option Value) (base : Heap) (k i : Nat) (E : XK) (t : TA) : TE := fun σ H Q => ∃ f sp, σ[i]? = some (some (.ref f)) ∧ HeldX P w K mg base k f sp ∧ t σ H fun vs H1 => sp vs H1 Q E
theorem pe_callH {X : Cx} {k i : Nat} {x : Str} {E : XK} {p pos : Pos} {e : Expr} {es : List Expr} {t : TA} (hr : Room k X.A) (hN : X.N[i]? = some x) (hv : Vis X.env.scope x) (tk : Takes X fun cls d _ H => E cls d H) (ha : PA X (e :: es) t)
    (hdb : (x == ("__debug__" : Str)) = false := by decide) (hcd : (x == ("__classdict__" : Str)) = false := by decide) (he : starEach (e :: es) X.env = (false, eval e X.env) :: starEach es X.env := by rfl) (hpl : (backTo pos (starEach es X.env)).any (·.1) = false := by rfl) :
    PE X (.Call (.Name x p) (e :: es) [] pos) (tCallH X.prog X.w X.K X.mg X.base k i E t) := ⟨fun pins s σ H Q I ⟨f, sp, hs, ⟨fd, ps, F, kp, b⟩, ht⟩ => by
  refine (pe_callL (i := i) (f := f) (sp := sp) (dvs := []) (E := E) F hr hN hv kp b .nil (passes_call tk fun _ _ _ _ z => z) ha hdb hcd he hpl).run pins s σ H Q I ⟨hs, ?_⟩
  have e0 : (fun (vs : List V) (H1 : Hp) => sp (vs ++ []) H1 Q E) = fun vs H1 => sp vs H1 Q E := by
    funext vs H1
    rw [List.append_nil]
  rw [e0]
  exact ht⟩
/-- the dicts of defs that the module holds -/
structure Dcts (K : PySem.W.Frag) (mg : Str → Option Value) (w : World) : Prop where
  deeds : ∃ d, mg "DEEDS" = some (.ref d) ∧ ∀ x ∈ ([("delete", "do_delete"), ("stop", "do_stop"), ("before", "do_before"), ("after", "do_after"), ("bring", "do_bring"), ("change", "do_change"), ("swap", "do_swap"), ("first", "do_first"), ("keep", "do_keep"), ("trade", "do_trade"), ("skip", "do_skip")] : List (Str × Str)), ∃ f, mg x.2 = some (.ref f) ∧ KDct K w d x.1 (.ref f)
section
variable {P : Program} {w : World} {K : PySem.W.Frag} {mg : Str → Option Value} {base : Heap} {A : Ad}
def spIniSpot (A : Ad) : Sp := fun vs H Q _ => ∃ (c dx : Addr) (x held : Line) (k : Nat) (last : Bool), vs = [.ref c, sV x, nV k, .bl last, sV held] ∧ H c = some (.ins A.sp dx []) ∧
  ∀ H' a b, H a = none → H b = none → SpotAt A H' c a b ⟨x, k, last, held, [], [], false, false, 0⟩ → But c H H' → Q .non H'
abbrev N_Spot___init__ : List Str := ["self", "line", "number", "is_last", "held"]
theorem sc_Spot___init__ : FnScope N_Spot___init__ ["self", "line", "number", "is_last", "held"] (defScope (inClass (top 92) 0)) := ⟨rfl, rfl, rfl, by decide +kernel, rfl, by decide +kernel, by decide +kernel⟩
theorem mk_Spot (T : Txt K mg A) : KOk P w K mg base 1 "Spot" A.sp (spIniSpot A) := by
  obtain ⟨f, fd, F, hm, b⟩ := T.i_Spot.ex
  refine ⟨f, fd, _, fn_mk F sc_Spot___init__ (fun vs H Q E ⟨_, _, _, _, _, _, e, _⟩ => by rw [e]; rfl) fun cdv AA outer s H vs Q E hr tk po h => ⟨_, (pss_cons (ps_fld (pv 0) (pv 1) rfl)
    (pss_cons (ps_fld (pv 0) (pv 2) rfl)
    (pss_cons (ps_fld (pv 0) (pv 3) rfl)
    (pss_cons (ps_fld (pv 0) (pv 4) rfl)
    (pss_cons (ps_fld (pv 0) (pe_lst pa_nil) rfl)
    (pss_cons (ps_fld (pv 0) (pe_lst pa_nil) rfl)
    (pss_cons (ps_fld (pv 0) pe_bl rfl)
    (pss_cons (ps_fld (pv 0) pe_bl rfl)
    (pss_one (ps_fld (pv 0) pe_int rfl)))))))))), ?_⟩, hm, b, T.q_Spot.gC⟩
  obtain ⟨c, dx, x, held, k, last, rfl, hc, q⟩ := h
  refine ⟨_, rfl, _, rfl, c, _, dx, _, rfl, hc, T.q_Spot.cl, T.q_Spot.no _ (by decide), by decide, ?_⟩
  refine ⟨_, rfl, _, rfl, c, _, dx, _, rfl, upd_same, T.q_Spot.cl, T.q_Spot.no _ (by decide), by show 1 < 1000; decide, ?_⟩
  refine ⟨_, rfl, _, rfl, c, _, dx, _, rfl, upd_same, T.q_Spot.cl, T.q_Spot.no _ (by decide), by show 2 < 1000; decide, ?_⟩
  refine ⟨_, rfl, _, rfl, c, _, dx, _, rfl, upd_same, T.q_Spot.cl, T.q_Spot.no _ (by decide), by show 3 < 1000; decide, ?_⟩
  rw [upd_upd, upd_upd, upd_upd]
  refine ⟨Nat.zero_le _, fun a ha => ?_⟩
  have ca : c ≠ a := ne_of_none upd_same ha
  refine ⟨_, rfl, c, _, dx, _, rfl, (upd_ne ca).trans upd_same, T.q_Spot.cl, T.q_Spot.no _ (by decide), by show 4 < 1000; decide, ?_⟩
  refine ⟨Nat.zero_le _, fun b hb => ?_⟩
  have cb : c ≠ b := ne_of_none upd_same hb
  refine ⟨_, rfl, c, _, dx, _, rfl, (upd_ne cb).trans upd_same, T.q_Spot.cl, T.q_Spot.no _ (by decide), by show 5 < 1000; decide, ?_⟩
  refine ⟨_, rfl, c, _, dx, _, rfl, upd_same, T.q_Spot.cl, T.q_Spot.no _ (by decide), by show 6 < 1000; decide, ?_⟩
  refine ⟨_, rfl, c, _, dx, _, rfl, upd_same, T.q_Spot.cl, T.q_Spot.no _ (by decide), by show 7 < 1000; decide, ?_⟩
  refine ⟨_, rfl, c, _, dx, _, rfl, upd_same, T.q_Spot.cl, T.q_Spot.no _ (by decide), by show 8 < 1000; decide, ?_⟩
  rw [upd_upd, upd_upd, upd_upd]
  have hb' : H b = none ∧ a ≠ b := by
    rw [upd_ne cb.symm] at hb
    have ne : a ≠ b := fun z => by rw [z, upd_same] at hb; cases hb
    rw [upd_ne ne.symm, upd_ne cb.symm] at hb
    exact ⟨hb, ne⟩
  have ha' : H a = none := by rw [upd_ne ca.symm] at ha; exact ha
  refine q _ a b ha' hb'.1 ⟨⟨dx, upd_same⟩, ?_, ?_, hb'.2⟩ fun u v nu hu => ?_
  · show upd _ c _ a = some (.lst [])
    rw [upd_ne ca.symm, upd_ne hb'.2, upd_ne ca.symm, upd_same]
  · show upd _ c _ b = some (.lst [])
    rw [upd_ne cb.symm, upd_same]
  · rw [upd_ne nu, upd_ne (ne_of_none hu hb'.1), upd_ne nu, upd_ne (ne_of_none hu ha'), upd_ne nu]
    exact hu
theorem with_all2 {α β : Type} {A O : α → β → Prop} {G : Prop} (h : (∀ x y, A x y → O x y) → G) (r : ∀ x y, A x y → O x y) : G := h r
def spotOut (s : Sp0) : Text := s.pre ++ ((if s.gone = true then [] else [s.x]) ++ s.post)
def spLinesFrom (A : Ad) : Sp := fun vs H Q _ => ∃ (p a b : Addr) (s : Sp0), vs = [.ref p] ∧ SpotAt A H p a b s ∧ s.ok ∧ New H Q fun H' D => LnAt H' D (spotOut s)
abbrev N_lines_from : List Str := ["spot", "itself"]
theorem sc_lines_from : FnScope N_lines_from ["spot"] (defScope (top 95)) := ⟨rfl, rfl, rfl, by decide +kernel, rfl, by decide +kernel, by decide +kernel⟩
theorem k_lines_from (T : Txt K mg A) : Ok P w K mg base 1 "lines_from" (spLinesFrom A) := by
  refine ok_mk T.d_lines_from sc_lines_from (fun vs H Q E ⟨_, _, _, _, e, _⟩ => by rw [e]; rfl) fun f cdv AA outer s H vs Q E hr tk po h => ⟨_, (pss_cons (ps_set (i := 1) sc_lines_from.nd rfl (Or.inl rfl) (pe_ifExp (pt_val (pe_fld (pv 0) rfl)) (pe_lst pa_nil) (pe_lst (pa_cons (pe_fld (pv 0) rfl) pa_nil))))
    (pss_one (ps_ret (pe_op op_cat (pe_op op_cat (pe_fld (pv 0) rfl) (pv 1)) (pe_fld (pv 0) rfl))))), ?_⟩
  obtain ⟨p, a, b, s, rfl, sp, sok, q⟩ := h
  obtain ⟨dx, hp⟩ := sp.obj
  refine ⟨_, rfl, p, _, dx, _, _, rfl, hp, T.q_Spot.cl, T.q_Spot.no _ (by decide), rfl, _, rfl, ?_⟩
  refine with_all2 (A := fun (H1 : Hp) (I : Addr) => Same H H1 ∧ H I = none ∧ LnAt H1 I (if s.gone = true then [] else [s.x])) (O := ?O) (fun rest => if_2 (fun k => ?_) fun k => ?_) fun H1 I hA => ?_
  rotate_left
  · refine ⟨Nat.zero_le _, fun I hI => ?_⟩
    obtain ⟨H1, e1⟩ : ∃ G, G = upd H I (.lst []) := ⟨_, rfl⟩
    rw [← e1]
    refine rest H1 I ⟨by rw [e1]; exact same_new hI, hI, ?_⟩
    rw [if_pos k, e1]
    exact upd_same
  · refine ⟨_, rfl, p, _, dx, _, _, rfl, hp, T.q_Spot.cl, T.q_Spot.no _ (by decide), rfl, sz1, fun I hI => ?_⟩
    refine rest _ I ⟨same_new hI, hI, ?_⟩
    rw [if_neg (by rw [k]; exact Bool.false_ne_true)]
    exact upd_same
  · obtain ⟨e1, hI, hl⟩ := hA
    have l1 : ((if s.gone = true then [] else [s.x]) : Text).length ≤ 1 := by split <;> simp
    have := sok.pre
    have := sok.post
    refine ⟨_, rfl, p, _, dx, _, _, rfl, e1 _ _ hp, T.q_Spot.cl, T.q_Spot.no _ (by decide), rfl, ?_⟩
    refine ⟨_, rfl, a, I, _, _, rfl, rfl, e1 _ _ sp.pre, hl, sz_of (by rw [List.length_map, List.length_map]; omega), fun R hR => ?_⟩
    have e2 := same_trans e1 (same_new (o := .lst (s.pre.map sV ++ (if s.gone = true then [] else [s.x]).map sV)) hR)
    refine ⟨_, rfl, p, _, dx, _, _, rfl, e2 _ _ hp, T.q_Spot.cl, T.q_Spot.no _ (by decide), rfl, ?_⟩
    refine ⟨R, b, _, _, rfl, rfl, upd_same, e2 _ _ sp.post, sz_of (by rw [List.length_append, List.length_map, List.length_map, List.length_map]; omega), fun D hD => ?_⟩
    refine q _ D (same_trans e2 (same_new hD)) (none_back e2 hD) ?_
    show upd _ D _ D = _
    rw [upd_same]
    unfold spotOut
    simp only [List.map_append, List.append_assoc]
end
end Lp
set_option maxRecDepth 100000
set_option maxHeartbeats 2000000
/-! The commands gone through on a line, on all lines: beside the specification's run. -/
namespace Lp
open VasedBase (Bytes word)
open Vaseda (Line Text Deed Cmd Script Work work lineRun worksBy works outOf run outText swapIn)
def goStep (s : Sp0) (c : Cmd) : Option Sp0 := if s.halt = true then some s else if 0 < s.left then some { s with left := s.left - 1 } else if Vaseda.holds s.k s.last s.x c.a = true then deedStep s c.d else some s
def goAll : Script → Sp0 → Option Sp0
  | [], s => some s
  | c :: r, s => (goStep s c).bind (goAll r)
theorem goAll_snoc : ∀ (cs : Script) (c : Cmd) (s : Sp0), goAll (cs ++ [c]) s = (goAll cs s).bind fun s' => goStep s' c
  | [], c, s => by show (goStep s c).bind (goAll []) = _; cases h : goStep s c <;> simp [h, goAll]
  | d :: r, c, s => by
    show (goStep s d).bind (goAll (r ++ [c])) = ((goStep s d).bind (goAll r)).bind _
    cases h : goStep s d with
    | none => rfl
    | some s1 => exact goAll_snoc r c s1
theorem goAll_app : ∀ (cs ds : Script) (s : Sp0), goAll (cs ++ ds) s = (goAll cs s).bind (goAll ds)
  | [], ds, s => rfl
  | d :: r, ds, s => by
    show (goStep s d).bind (goAll (r ++ ds)) = ((goStep s d).bind (goAll r)).bind _
    cases h : goStep s d with
    | none => rfl
    | some s1 => exact goAll_app r ds s1
theorem goAll_halt : ∀ (cs : Script) (s : Sp0), s.halt = true → goAll cs s = some s
  | [], _, _ => rfl
  | c :: r, s, h => by
    show (goStep s c).bind (goAll r) = _
    unfold goStep
    rw [if_pos h]
    exact goAll_halt r s h
/-- the lines and how many they are, after n commands -/
structure Sp0.okn (s : Sp0) (n : Nat) : Prop where
  x : s.x.length ≤ 16
  held : s.held.length ≤ 16
  cnt : s.pre.length + s.post.length ≤ n
  all : ∀ l ∈ s.pre ++ s.post, l.length ≤ 16
theorem Sp0.okn.ok {s : Sp0} {n : Nat} (h : s.okn n) (hn : n ≤ 1000) : s.ok := ⟨h.x, h.held, by have := h.cnt; omega, by have := h.cnt; omega⟩
theorem mem3 {l y : Line} {p q : Text} (h : l ∈ p ++ [y] ++ q) : l ∈ p ++ q ∨ l = y := by
  simp only [List.mem_append, List.mem_singleton] at h ⊢
  rcases h with (h | h) | h
  · exact .inl (.inl h)
  · exact .inr h
  · exact .inl (.inr h)
theorem mem4 {l y : Line} {p q : Text} (h : l ∈ p ++ (q ++ [y])) : l ∈ p ++ q ∨ l = y := by
  simp only [List.mem_append, List.mem_singleton] at h ⊢
  rcases h with h | h | h
  · exact .inl (.inl h)
  · exact .inl (.inr h)
  · exact .inr h
theorem deed_okn {s s' : Sp0} {d : Deed} {n : Nat} (k : s.okn n) (hd : deedOk d) (h : deedStep s d = some s') : s'.okn (n + 1) := by
  obtain ⟨h1, h2, h3, h4⟩ := k
  cases d with
  | delete => cases h; exact ⟨h1, h2, by show s.pre.length + s.post.length ≤ _; omega, h4⟩
  | before y =>
    cases h
    have hy : y.length ≤ 8 := hd
    refine ⟨h1, h2, by show (s.pre ++ [y]).length + s.post.length ≤ _; rw [List.length_append, List.length_singleton]; omega, fun l hl => ?_⟩
    rcases mem3 hl with z | z
    · exact h4 l z
    · rw [z]; omega
  | after y =>
    cases h
    have hy : y.length ≤ 8 := hd
    refine ⟨h1, h2, by show s.pre.length + (s.post ++ [y]).length ≤ _; rw [List.length_append, List.length_singleton]; omega, fun l hl => ?_⟩
    rcases mem4 hl with z | z
    · exact h4 l z
    · rw [z]; omega
  | change y =>
    cases h
    have hy : y.length ≤ 8 := hd
    exact ⟨by show y.length ≤ 16; omega, h2, by show s.pre.length + s.post.length ≤ _; omega, h4⟩
  | swap a b =>
    unfold deedStep at h
    dsimp only at h
    split at h
    · cases h
    · rename_i c
      cases h
      exact ⟨by show (swapIn a b false s.x).length ≤ 16; omega, h2, by show s.pre.length + s.post.length ≤ _; omega, h4⟩
  | first a b =>
    unfold deedStep at h
    dsimp only at h
    split at h
    · cases h
    · rename_i c
      cases h
      exact ⟨by show (swapIn a b true s.x).length ≤ 16; omega, h2, by show s.pre.length + s.post.length ≤ _; omega, h4⟩
  | keep => cases h; exact ⟨h1, h1, by show s.pre.length + s.post.length ≤ _; omega, h4⟩
  | bring =>
    cases h
    refine ⟨h1, h2, by show s.pre.length + (s.post ++ [s.held]).length ≤ _; rw [List.length_append, List.length_singleton]; omega, fun l hl => ?_⟩
    rcases mem4 hl with z | z
    · exact h4 l z
    · rw [z]; exact h2
  | trade => cases h; exact ⟨h2, h1, by show s.pre.length + s.post.length ≤ _; omega, h4⟩
  | skip m => cases h; exact ⟨h1, h2, by show s.pre.length + s.post.length ≤ _; omega, h4⟩
  | halt_ => cases h; exact ⟨h1, h2, by show s.pre.length + s.post.length ≤ _; omega, h4⟩
theorem Sp0.okn.more {s : Sp0} {n : Nat} (h : s.okn n) : s.okn (n + 1) := ⟨h.x, h.held, by have := h.cnt; omega, h.all⟩
theorem go_okn {s s' : Sp0} {c : Cmd} {n : Nat} (k : s.okn n) (hd : deedOk c.d) (h : goStep s c = some s') : s'.okn (n + 1) := by
  unfold goStep at h
  split at h
  · cases h; exact k.more
  split at h
  · cases h; exact ⟨k.x, k.held, by have := k.cnt; show s.pre.length + s.post.length ≤ _; omega, k.all⟩
  split at h
  · exact deed_okn k hd h
  · cases h; exact k.more
theorem goAll_okn : ∀ {cs : Script} {s s' : Sp0} {n : Nat}, s.okn n → (∀ c ∈ cs, deedOk c.d) → goAll cs s = some s' → s'.okn (n + cs.length)
  | [], s, s', n, k, _, h => by cases h; exact k
  | c :: r, s, s', n, k, hc, h => by
    have h : (goStep s c).bind (goAll r) = some s' := h
    cases e : goStep s c with
    | none => rw [e] at h; cases h
    | some s1 =>
      rw [e] at h
      have := goAll_okn (go_okn k (hc c List.mem_cons_self) e) (fun x hx => hc x (List.mem_cons_of_mem _ hx)) h
      rw [List.length_cons, show n + (r.length + 1) = n + 1 + r.length by omega]
      exact this
/-- the specification's work, as a spot -/
def spotOf (k : Nat) (last : Bool) (w : Work) : Sp0 := ⟨w.x, k, last, w.held, w.pre.map (·.x), w.post.map (·.x), w.gone, w.halt, w.left⟩
theorem work_is {k i : Nat} {last : Bool} {w : Work} {c : Cmd} (hb : w.bad = false) : match goStep (spotOf k last w) c with
    | some s' => (work k last w (c, i)).bad = false ∧ spotOf k last (work k last w (c, i)) = s'
    | none => (work k last w (c, i)).bad = true := by
  obtain ⟨x, held, pre, post, gone, halt, left, did, bad⟩ := w
  cases (show bad = false from hb)
  generalize hw : (⟨x, held, pre, post, gone, halt, left, did, false⟩ : Work) = w
  have e1 : (spotOf k last w).halt = w.halt := rfl
  have e2 : (spotOf k last w).left = w.left := rfl
  have e0 : w.bad = false := by rw [← hw]
  unfold goStep work
  rw [e1, e2, show (w.halt || w.bad) = w.halt by rw [e0, Bool.or_false]]
  by_cases h1 : w.halt = true
  · rw [if_pos h1, if_pos h1]
    exact ⟨e0, rfl⟩
  · rw [if_neg h1, if_neg h1]
    by_cases h2 : 0 < w.left
    · rw [if_pos h2, if_pos h2]
      exact ⟨e0, rfl⟩
    · rw [if_neg h2, if_neg h2]
      have e3 : Vaseda.holds (spotOf k last w).k (spotOf k last w).last (spotOf k last w).x c.a = Vaseda.holds k last w.x c.a := rfl
      rw [e3]
      by_cases h3 : Vaseda.holds k last w.x c.a = true
      · rw [if_pos h3, if_pos h3]
        obtain ⟨a, d⟩ := c
        cases d with
        | delete => exact ⟨e0, rfl⟩
        | before y => exact ⟨e0, by unfold spotOf Vaseda.deed; simp⟩
        | after y => exact ⟨e0, by unfold spotOf Vaseda.deed; simp⟩
        | change y => exact ⟨e0, rfl⟩
        | swap y z =>
          by_cases h4 : 16 < (swapIn y z false w.x).length
          · have e5 : deedStep (spotOf k last w) ({ a := a, d := .swap y z } : Cmd).d = none := if_pos h4
            rw [e5]
            show (w.bad || decide (16 < (swapIn y z false w.x).length)) = true
            rw [decide_eq_true h4, Bool.or_true]
          · have e5 : deedStep (spotOf k last w) ({ a := a, d := .swap y z } : Cmd).d = some { spotOf k last w with x := swapIn y z false w.x } := if_neg h4
            rw [e5]
            refine ⟨?_, rfl⟩
            show (w.bad || decide (16 < (swapIn y z false w.x).length)) = false
            rw [e0, decide_eq_false h4]; rfl
        | first y z =>
          by_cases h4 : 16 < (swapIn y z true w.x).length
          · have e5 : deedStep (spotOf k last w) ({ a := a, d := .first y z } : Cmd).d = none := if_pos h4
            rw [e5]
            show (w.bad || decide (16 < (swapIn y z true w.x).length)) = true
            rw [decide_eq_true h4, Bool.or_true]
          · have e5 : deedStep (spotOf k last w) ({ a := a, d := .first y z } : Cmd).d = some { spotOf k last w with x := swapIn y z true w.x } := if_neg h4
            rw [e5]
            refine ⟨?_, rfl⟩
            show (w.bad || decide (16 < (swapIn y z true w.x).length)) = false
            rw [e0, decide_eq_false h4]; rfl
        | keep => exact ⟨e0, rfl⟩
        | bring => exact ⟨e0, by unfold spotOf Vaseda.deed; simp⟩
        | trade => exact ⟨e0, rfl⟩
        | skip m => exact ⟨e0, rfl⟩
        | halt_ => exact ⟨e0, rfl⟩
      · rw [if_neg h3, if_neg h3]
        exact ⟨e0, rfl⟩
theorem bad_stays {k : Nat} {last : Bool} : ∀ (l : List (Cmd × Nat)) (w : Work), w.bad = true → (l.foldl (work k last) w).bad = true
  | [], _, h => h
  | c :: r, w, h => by
    rw [List.foldl_cons]
    have e : work k last w c = w := by
      unfold work
      rw [h, Bool.or_true, if_pos rfl]
    rw [e]
    exact bad_stays r w h
theorem works_is {k : Nat} {last : Bool} : ∀ (cs : Script) (i : Nat) (w : Work), w.bad = false → match goAll cs (spotOf k last w) with
    | some s' => ((cs.zipIdx i).foldl (work k last) w).bad = false ∧ spotOf k last ((cs.zipIdx i).foldl (work k last) w) = s'
    | none => ((cs.zipIdx i).foldl (work k last) w).bad = true
  | [], i, w, h => ⟨h, rfl⟩
  | c :: r, i, w, h => by
    rw [List.zipIdx_cons, List.foldl_cons]
    show match (goStep (spotOf k last w) c).bind (goAll r) with
      | some s' => _
      | none => _
    have hw := work_is (k := k) (i := i) (last := last) (c := c) h
    cases e : goStep (spotOf k last w) c with
    | none =>
      rw [e] at hw
      exact bad_stays _ _ hw
    | some s1 =>
      rw [e] at hw
      obtain ⟨hb, rfl⟩ := hw
      exact works_is r (i + 1) _ hb
def spot0 (x : Line) (k : Nat) (last : Bool) (held : Line) : Sp0 := ⟨x, k, last, held, [], [], false, false, 0⟩
theorem line_is (cs : Script) (k : Nat) (last : Bool) (x held : Line) : match goAll cs (spot0 x k last held) with
    | some s' => (lineRun cs k last x held).bad = false ∧ spotOf k last (lineRun cs k last x held) = s'
    | none => (lineRun cs k last x held).bad = true := works_is cs 0 ⟨x, held, [], [], false, false, 0, [], false⟩ rfl
/-- what comes of all lines -/
def outAll (cs : Script) : Nat → Line → Text → Option Text
  | _, _, [] => some []
  | k, held, x :: r => (goAll cs (spot0 x k r.isEmpty held)).bind fun s => (outAll cs (k + 1) s.held r).map fun o => spotOut s ++ o
theorem out_of (k j : Nat) (last : Bool) (w : Work) : (outOf j w).map (·.x) = spotOut (spotOf k last w) := by
  unfold outOf spotOut spotOf
  dsimp only
  rw [List.map_append, List.map_append]
  split <;> simp_all
theorem outs_is (cs : Script) : ∀ (t : Text) (k j : Nat) (held : Line), match outAll cs k held t with
    | some o => (worksBy cs k held t).any (fun w => w.bad) = false ∧ (((worksBy cs k held t).zipIdx j).flatMap fun w => outOf (w.2 + 1) w.1).map (·.x) = o
    | none => (worksBy cs k held t).any (fun w => w.bad) = true
  | [], k, j, held => ⟨rfl, rfl⟩
  | x :: r, k, j, held => by
    unfold worksBy
    dsimp only
    have hl := line_is cs k r.isEmpty x held
    cases e : goAll cs (spot0 x k r.isEmpty held) with
    | none =>
      rw [e] at hl
      have e7 : outAll cs k held (x :: r) = none := by show (goAll _ _).bind _ = _; rw [e]; rfl
      rw [e7]
      have hl : (lineRun cs k r.isEmpty x held).bad = true := hl
      show ((lineRun cs k r.isEmpty x held).bad || _) = true
      rw [hl]; rfl
    | some s1 =>
      rw [e] at hl
      obtain ⟨hb, hs⟩ := hl
      have hh : s1.held = (lineRun cs k r.isEmpty x held).held := by rw [← hs]; rfl
      have ih := outs_is cs r (k + 1) (j + 1) s1.held
      have e7 : outAll cs k held (x :: r) = (outAll cs (k + 1) s1.held r).map fun o => spotOut s1 ++ o := by show (goAll _ _).bind _ = _; rw [e]; rfl
      rw [e7, ← hh]
      cases e2 : outAll cs (k + 1) s1.held r with
      | none =>
        rw [e2] at ih
        show (_ || _) = true
        rw [ih, Bool.or_true]
      | some o =>
        rw [e2] at ih
        obtain ⟨i1, i2⟩ := ih
        refine ⟨?_, ?_⟩
        · show ((lineRun cs k r.isEmpty x held).bad || _) = false
          rw [hb, i1]; rfl
        · rw [List.zipIdx_cons, List.flatMap_cons, List.map_append, i2, out_of k (j + 1) r.isEmpty, hs]
/-- the run's text, none if it is refused -/
def runText (cs : Script) (t : Text) : Option Text := (run cs t).map outText
theorem run_is (cs : Script) (t : Text) : runText cs t = match outAll cs 1 [] t with
    | none => none
    | some o => if 60 < o.length then none else some o := by
  have h := outs_is cs t 1 0 []
  unfold runText run works
  dsimp only
  cases e : outAll cs 1 [] t with
  | none =>
    rw [e] at h
    rw [if_pos (.inl h)]; rfl
  | some o =>
    rw [e] at h
    obtain ⟨h1, h2⟩ := h
    have hl : ((worksBy cs 1 [] t).zipIdx.flatMap fun w => outOf (w.2 + 1) w.1).length = o.length := by rw [← h2, List.length_map]
    show _ = if 60 < o.length then none else some o
    by_cases c : 60 < o.length
    · rw [if_pos (.inr (show Vaseda.OUTS < _ by rw [hl]; exact c)), if_pos c]; rfl
    · rw [if_neg (fun z => z.elim (fun z => by rw [h1] at z; cases z) fun z => c (by rw [← hl]; exact z)), if_neg c]
      show some _ = some o
      rw [← h2]; rfl
theorem run_none {cs : Script} {t : Text} : run cs t = none ↔ runText cs t = none := by unfold runText; cases run cs t <;> simp
/-- the lines that come are short -/
theorem outs_short {cs : Script} (hc : ∀ c ∈ cs, deedOk c.d) : ∀ {t : Text} {k : Nat} {held : Line} {o : Text}, (∀ l ∈ t, l.length ≤ 16) → held.length ≤ 16 → outAll cs k held t = some o → ∀ l ∈ o, l.length ≤ 16
  | [], k, held, o, _, _, h => by cases h; exact fun l hl => by cases hl
  | x :: r, k, held, o, ht, hh, h => by
    have h : (goAll cs (spot0 x k r.isEmpty held)).bind _ = some o := h
    cases e : goAll cs (spot0 x k r.isEmpty held) with
    | none => rw [e] at h; cases h
    | some s =>
      rw [e] at h
      have h : (outAll cs (k + 1) s.held r).map _ = some o := h
      rw [Option.map_eq_some_iff] at h
      obtain ⟨o1, e1, rfl⟩ := h
      have k0 : (spot0 x k r.isEmpty held).okn 0 := ⟨ht x List.mem_cons_self, hh, Nat.le_refl _, fun l hl => by cases hl⟩
      have k1 := goAll_okn k0 hc e
      intro l hl
      rcases List.mem_append.mp hl with hl | hl
      · unfold spotOut at hl
        rcases List.mem_append.mp hl with hl | hl
        · exact k1.all l (List.mem_append_left _ hl)
        · rcases List.mem_append.mp hl with hl | hl
          · split at hl
            · cases hl
            · rw [List.mem_singleton.mp hl]; exact k1.x
          · exact k1.all l (List.mem_append_right _ hl)
      · exact outs_short hc (fun l hl => ht l (List.mem_cons_of_mem _ hl)) k1.held e1 l hl
end Lp
set_option maxRecDepth 100000
set_option maxHeartbeats 4000000
namespace Lp
open PySem PySem.Spec PyProof.Rows L2
open VasedBase (Bytes word)
open Vaseda (Line Text Deed Cmd Script)
section
variable {P : Program} {w : World} {K : PySem.W.Frag} {mg : Str → Option Value} {base : Heap} {A : Ad}
theorem sqt_frz {H : Hp} {a : Addr} {o : Obj} {xs : List V} (h : H a = some (.frz o (.tup xs))) : SqT K H a xs := .inl (.inr ⟨o, h⟩)
theorem deed_def (T : Txt K mg A) (DD : Dcts K mg w) : ∃ dd, mg "DEEDS" = some (.ref dd) ∧ ∀ d : Deed, ∃ (key : Str) (f : Addr) (kind : Deed → Prop), (∀ G v, DeedAt G d v → ∃ vs, SqT K G v (.str key :: vs)) ∧ KDct K w dd key (.ref f) ∧ HeldX P w K mg base 5 f (spDo A kind) ∧ kind d := by
  obtain ⟨dd, hd, all⟩ := DD.deeds
  refine ⟨dd, hd, fun d => ?_⟩
  cases d with
  | delete => obtain ⟨f, h1, h2⟩ := all ("delete", "do_delete") (by simp); exact ⟨_, f, _, fun G v h => ⟨_, SqT.of h⟩, h2, (k_do_delete T).heldX h1 (by decide), rfl⟩
  | before y => obtain ⟨f, h1, h2⟩ := all ("before", "do_before") (by simp); exact ⟨_, f, _, fun G v h => ⟨_, SqT.of h⟩, h2, (k_do_before T).heldX h1 (by decide), ⟨y, rfl⟩⟩
  | after y => obtain ⟨f, h1, h2⟩ := all ("after", "do_after") (by simp); exact ⟨_, f, _, fun G v h => ⟨_, SqT.of h⟩, h2, (k_do_after T).heldX h1 (by decide), ⟨y, rfl⟩⟩
  | change y => obtain ⟨f, h1, h2⟩ := all ("change", "do_change") (by simp); exact ⟨_, f, _, fun G v h => ⟨_, SqT.of h⟩, h2, (k_do_change T).heldX h1 (by decide), ⟨y, rfl⟩⟩
  | swap y z => obtain ⟨f, h1, h2⟩ := all ("swap", "do_swap") (by simp); exact ⟨_, f, _, fun G v ⟨_, _, _, _, _, h, _⟩ => ⟨_, sqt_frz h⟩, h2, (k_do_swap T).heldX h1 (by decide), ⟨y, z, rfl⟩⟩
  | first y z => obtain ⟨f, h1, h2⟩ := all ("first", "do_first") (by simp); exact ⟨_, f, _, fun G v ⟨_, _, _, _, _, h, _⟩ => ⟨_, sqt_frz h⟩, h2, (k_do_first T).heldX h1 (by decide), ⟨y, z, rfl⟩⟩
  | keep => obtain ⟨f, h1, h2⟩ := all ("keep", "do_keep") (by simp); exact ⟨_, f, _, fun G v h => ⟨_, SqT.of h⟩, h2, (k_do_keep T).heldX h1 (by decide), rfl⟩
  | bring => obtain ⟨f, h1, h2⟩ := all ("bring", "do_bring") (by simp); exact ⟨_, f, _, fun G v h => ⟨_, SqT.of h⟩, h2, (k_do_bring T).heldX h1 (by decide), rfl⟩
  | trade => obtain ⟨f, h1, h2⟩ := all ("trade", "do_trade") (by simp); exact ⟨_, f, _, fun G v h => ⟨_, SqT.of h⟩, h2, (k_do_trade T).heldX h1 (by decide), rfl⟩
  | skip n => obtain ⟨f, h1, h2⟩ := all ("skip", "do_skip") (by simp); exact ⟨_, f, _, fun G v h => ⟨_, SqT.of h⟩, h2, (k_do_skip T).heldX h1 (by decide), ⟨n, rfl⟩⟩
  | halt_ => obtain ⟨f, h1, h2⟩ := all ("stop", "do_stop") (by simp); exact ⟨_, f, _, fun G v h => ⟨_, SqT.of h⟩, h2, (k_do_stop T).heldX h1 (by decide), rfl⟩
/-- a command within what was read -/
structure CmdOk (c : Cmd) : Prop where
  d : deedOk c.d
  a : depth c.a ≤ 3
theorem ne_spot {C C' d d' a b : Addr} {x y : V} {s : Sp0} : HO.ins C d [("address", x), ("deed", y)] ≠ HO.ins C' d' (spFs s a b) := fun z => by
  injection z with _ _ h
  have := congrArg List.length h
  exact absurd this (by show ¬ 2 = 9; decide)
theorem ScriptAt.but3 {H H' : Hp} {S p a b : Addr} {cs : Script} {s : Sp0} (k : ScriptAt A H S cs) (sp : SpotAt A H p a b s) (e : But3 p a b H H') (na : S ≠ a) (nb : S ≠ b) : ScriptAt A H' S cs := by
  obtain ⟨vs, h1, h2⟩ := k
  have kf := e.keepF sp
  obtain ⟨⟨dx, hp⟩, l1, l2, _⟩ := sp
  refine ⟨vs, e _ _ (ne_of h1 hp (by intro z; cases z)) na nb h1, h2.mono fun c m _ _ q => ?_⟩
  obtain ⟨dc, va, vd, q1, q2, q3⟩ := q
  exact ⟨dc, va, vd, e _ _ (ne_of q1 hp ne_spot) (ne_of q1 l1 (by intro z; cases z)) (ne_of q1 l2 (by intro z; cases z)) q1, q2.keep kf.1, q3.keep kf⟩
def spGo (A : Ad) : Sp := fun vs H Q E => ∃ (S p a b : Addr) (cs : Script) (s : Sp0), vs = [.ref S, .ref p] ∧ ScriptAt A H S cs ∧ SpotAt A H p a b s ∧ S ≠ a ∧ S ≠ b ∧ s.okn 0 ∧ cs.length ≤ 100 ∧ (∀ c ∈ cs, CmdOk c) ∧
  (∀ s', goAll cs s = some s' → ∀ H', SpotAt A H' p a b s' → But3 p a b H H' → Q .non H') ∧ (goAll cs s = none → Out3 A E p a b H)
abbrev N_go_through : List Str := ["commands", "spot", "command", "do"]
theorem sc_go_through : FnScope N_go_through ["commands", "spot"] (defScope (top 94)) := ⟨rfl, rfl, rfl, by decide +kernel, rfl, by decide +kernel, by decide +kernel⟩
theorem k_go_through (T : Txt K mg A) (DD : Dcts K mg w) : Ok P w K mg base 6 "go_through" (spGo A) := by
  refine ok_mk T.d_go_through sc_go_through (fun vs H Q E ⟨_, _, _, _, _, _, e, _⟩ => by rw [e]; rfl) fun f cdv AA outer s H vs Q E hr tk po h => ?_
  obtain ⟨dd, hDE, defs⟩ := deed_def (P := P) (base := base) T DD
  refine ⟨_, (pss_one (ps_for po rfl (pi_list (pv 0)) (pg_name (i := 2) sc_go_through.nd rfl (Or.inl rfl)) (pss_cons (ps_if (pt_val (pe_fld (pv 1) rfl)) (pss_one ps_retN) pss_nil)
    (pss_one (ps_if (pt_cmpR op_gt (pe_fld (pv 1) rfl) pe_int (nomark _)) (pss_one (ps_fldaug (pv 1) pe_int in_sub)) (pss_one (ps_if (pt_val (pe_k (k_holds T 3) hr tk (pa_cons (pe_fld (pv 2) rfl) (pa_cons (pv 1) pa_nil)))) (pss_cons (ps_set (i := 3) sc_go_through.nd rfl (Or.inl rfl) (pe_ix ix_kdict (pe_gv (v := .ref dd) ⟨.ref dd, hDE, rfl⟩) (pe_ix ix_tup (pe_fld (pv 2) rfl) pe_int (fun _ _ => rfl)) (fun _ _ => rfl)))
    (pss_one (ps_expr (pe_callH (i := 3) (k := 5) hr rfl (.inl rfl) tk (pa_cons (pv 1) (pa_cons (pe_fld (pv 2) rfl) pa_nil)))))) pss_nil))))))), ?_⟩
  obtain ⟨S, p, a, b, cs, s, rfl, sa, sp, na, nb, k0, hcl, hco, q, o⟩ := h
  obtain ⟨vs, h1, h2⟩ := id sa
  have vl : (vs.map V.ref).length = cs.length := by rw [List.length_map, h2.len]
  refine ⟨_, rfl, S, rfl, ⟨_, SqL.of h1⟩, ?_⟩
  refine for_list (K := K) (a := S) (xs := vs.map V.ref) (fun i σ G => ∃ (si : Sp0) (c0 d0 : Option V), σ = [some (.ref S), some (.ref p), c0, d0] ∧ goAll (cs.take i) s = some si ∧ SpotAt A G p a b si ∧ But3 p a b H G ∧ si.okn i) ?_ ?_ ?_ ?_
  · exact ⟨s, none, none, rfl, rfl, sp, fun _ _ _ _ _ h => h, k0⟩
  · rintro i σ G _ ⟨si, c0, d0, rfl, _, spi, bt, _⟩
    obtain ⟨vs', h1', _⟩ := sa.but3 sp bt na nb
    have : G S = some (.lst (vs.map V.ref)) := by
      obtain ⟨⟨dx, hp⟩, _⟩ := sp
      exact bt _ _ (ne_of h1 hp (by intro z; cases z)) na nb h1
    exact SqL.of this
  · rintro i x σ G hx ⟨si, c0, d0, rfl, eg, spi, bt, ki⟩
    obtain ⟨c, hc, rfl⟩ := map_get hx
    obtain ⟨cmd, hcm, _⟩ := h2.get hc
    have hi := get_lt hcm
    have cok := hco cmd (List.mem_of_getElem? hcm)
    have ec : CmdAt A G c cmd := by
      obtain ⟨vs', h1', h2'⟩ := sa.but3 sp bt na nb
      have hS : G S = some (.lst (vs.map V.ref)) := by
        obtain ⟨⟨dx, hp⟩, _⟩ := sp
        exact bt _ _ (ne_of h1 hp (by intro z; cases z)) na nb h1
      rw [hS] at h1'
      have : vs = vs' := by
        have e := HO.lst.inj (Option.some.inj h1')
        exact (List.map_inj_right (fun x y h => V.ref.inj h)).mp e
      subst this
      exact h2'.at_ i c cmd hc hcm
    obtain ⟨dc, va, vd, hcG, av, dat⟩ := ec
    obtain ⟨dx, hp⟩ := spi.obj
    have step : ∀ {s'}, goStep si cmd = some s' → goAll (cs.take (i + 1)) s = some s' := fun {s'} h => by rw [take_more hcm, goAll_snoc, eg]; exact h
    have bad : goStep si cmd = none → goAll cs s = none := fun h => by
      rw [← List.take_append_drop (i + 1) cs, goAll_app, take_more hcm, goAll_snoc, eg]
      show ((goStep si cmd).bind _) = none
      rw [h]; rfl
    have okk : ∀ {s'}, goStep si cmd = some s' → s'.okn (i + 1) := fun h => go_okn ki cok.d h
    refine ⟨_, rfl, p, _, dx, _, _, rfl, hp, T.q_Spot.cl, T.q_Spot.no _ (by decide), rfl, _, rfl, if_2 (fun k => ?_) fun k => ?_⟩
    · refine q si ?_ G spi bt
      rw [← List.take_append_drop i cs, goAll_app, eg]
      exact goAll_halt _ _ k
    · have k : ¬ si.halt = true := by rw [k]; exact Bool.false_ne_true
      refine ⟨_, rfl, p, _, dx, _, _, rfl, hp, T.q_Spot.cl, T.q_Spot.no _ (by decide), rfl, ?_⟩
      refine ⟨_, _, rfl, rfl, _, rfl, if_2 (fun k2 => ?_) fun k2 => ?_⟩
      · have k2 : 0 < si.left := by have := of_decide_eq_true k2; omega
        have eg2 : goStep si cmd = some { si with left := si.left - 1 } := by unfold goStep; rw [if_neg k, if_pos k2]
        refine ⟨_, rfl, p, _, dx, _, _, rfl, hp, T.q_Spot.cl, T.q_Spot.no _ (by decide), rfl, ?_⟩
        refine ⟨_, _, rfl, rfl, dx, _, hp, by show 9 < 1000; decide, ?_⟩
        refine ⟨_, _, _, rfl, step eg2, ?_, bt.trans .at_p, okk eg2⟩
        have e : putF "left_out" (.int ((si.left : Int) - 1)) (spFs si a b) = spFs { si with left := si.left - 1 } a b := by
          rw [show V.int ((si.left : Int) - 1) = nV (si.left - 1) from congrArg V.int (by omega)]
          rfl
        rw [e]
        exact spi.put (s' := { si with left := si.left - 1 }) rfl rfl
      · have k2 : ¬ 0 < si.left := by have := of_decide_eq_false k2; omega
        refine ⟨_, rfl, c, _, dc, _, _, rfl, hcG, T.q_Command.cl, T.q_Command.no _ (by decide), rfl, _, rfl, va, p, a, b, cmd.a, si, rfl, av, spi, cok.a, _, rfl, if_2 (fun k3 => ?_) fun k3 => ?_⟩
        · have eg2 : goStep si cmd = deedStep si cmd.d := by unfold goStep; rw [if_neg k, if_neg k2, if_pos k3]
          obtain ⟨key, f, kind, hkey, hK, hH, hkind⟩ := defs cmd.d
          obtain ⟨ws, hw⟩ := hkey G vd dat
          refine ⟨_, rfl, c, _, dc, _, _, rfl, hcG, T.q_Command.cl, T.q_Command.no _ (by decide), rfl, vd, _, _, _, rfl, rfl, hw, at_n (j := 0) rfl rfl, dd, key, .ref f, rfl, rfl, hK, ?_⟩
          refine ⟨f, _, rfl, hH, _, rfl, _, rfl, c, _, dc, _, _, rfl, hcG, T.q_Command.cl, T.q_Command.no _ (by decide), rfl, p, a, b, vd, si, cmd.d, rfl, hkind, spi, dat, cok.d, ki.ok (by omega), fun s' es H' sp' bt' => ?_, fun en => ?_⟩
          · exact ⟨s', _, _, rfl, step (eg2.trans es), sp', bt.trans bt', okk (eg2.trans es)⟩
          · exact fun H' d' bt' hd' => o (bad (eg2.trans en)) H' d' (bt.trans bt') hd'
        · have eg2 : goStep si cmd = some si := by unfold goStep; rw [if_neg k, if_neg k2, if_neg (by rw [k3]; exact Bool.false_ne_true)]
          exact ⟨si, _, _, rfl, step eg2, spi, bt, okk eg2⟩
  · rintro σ G ⟨si, c0, d0, rfl, eg, spi, bt, ki⟩
    rw [vl, List.take_length] at eg
    exact q si eg G spi bt
end
end Lp
set_option maxRecDepth 100000
set_option maxHeartbeats 4000000
namespace Lp
open PySem PySem.Spec PyProof.Rows L2
open VasedBase (Bytes word)
open Vaseda (Line Text Deed Cmd Script)
section
variable {P : Program} {w : World} {K : PySem.W.Frag} {mg : Str → Option Value} {base : Heap} {A : Ad}
theorem drop_empty {α : Type} {t : List α} {i : Nat} (h : i < t.length) : (t.drop (i + 1)).isEmpty = decide (i + 1 = t.length) := by
  rw [Bool.eq_iff_iff, List.isEmpty_iff, decide_eq_true_iff, List.drop_eq_nil_iff]
  omega
theorem outAll_cons (cs : Script) (k : Nat) (held x : Line) (r : Text) : outAll cs k held (x :: r) = (goAll cs (spot0 x k r.isEmpty held)).bind fun s => (outAll cs (k + 1) s.held r).map fun o => spotOut s ++ o := rfl
def spResultOf (A : Ad) : Sp := fun vs H Q E => ∃ (S L : Addr) (cs : Script) (t : Text), vs = [.ref S, .ref L] ∧ ScriptAt A H S cs ∧ LnAt H L t ∧ cs.length ≤ 16 ∧ (∀ c ∈ cs, CmdOk c) ∧ t.length ≤ 24 ∧ (∀ l ∈ t, l.length ≤ 16) ∧
  (∀ o, runText cs t = some o → New H Q fun H' D => LnAt H' D o) ∧ (runText cs t = none → Out E H A.tm [("number", .int (-7))])
abbrev N_result_of : List Str := ["commands", "lines", "result", "held", "number", "line", "spot"]
theorem sc_result_of : FnScope N_result_of ["commands", "lines"] (defScope (top 93)) := ⟨rfl, rfl, rfl, by decide +kernel, rfl, by decide +kernel, by decide +kernel⟩
theorem k_result_of (T : Txt K mg A) (DD : Dcts K mg w) : Ok P w K mg base 7 "result_of" (spResultOf A) := by
  refine ok_mk T.d_result_of sc_result_of (fun vs H Q E ⟨_, _, _, _, e, _⟩ => by rw [e]; rfl) fun f cdv AA outer s H vs Q E hr tk po h => ⟨_, (pss_cons (ps_set (i := 2) sc_result_of.nd rfl (Or.inl rfl) (pe_lst pa_nil))
    (pss_cons (ps_set (i := 3) sc_result_of.nd rfl (Or.inl rfl) pe_str)
    (pss_cons (ps_for po rfl (pi_from (k := 1) rfl T.b_enumerate (by decide) (pa_cons (pv 1) pa_nil)) (pg_tup rfl (pgs_cons (pg_name (i := 4) sc_result_of.nd rfl (Or.inl rfl)) (pgs_cons (pg_name (i := 5) sc_result_of.nd rfl (Or.inl rfl)) pgs_nil))) (pss_cons (ps_set (i := 6) sc_result_of.nd rfl (Or.inl rfl) (pe_mk (mk_Spot T) hr tk (pa_cons (pv 5) (pa_cons (pv 4) (pa_cons (pe_cmpR op_eq (pv 4) (pe_len T.b_len (pv 1)) (nomark _)) (pa_cons (pv 3) pa_nil))))))
    (pss_cons (ps_expr (pe_k (k_go_through T DD) hr tk (pa_cons (pv 0) (pa_cons (pv 6) pa_nil))))
    (pss_cons (ps_set (i := 3) sc_result_of.nd rfl (Or.inl rfl) (pe_fld (pv 6) rfl))
    (pss_one (ps_expr (pe_bm PySem.F.plainAttrs_list PySem.F.slot_list_extend PySem.F.type_list_extend mt_extend (pv 2) (pa_cons (pe_k (k_lines_from T) hr tk (pa_cons (pv 6) pa_nil)) pa_nil))))))))
    (pss_cons (ps_if (pt_cmpR op_gt (pe_len T.b_len (pv 2)) (pe_gv T.c_MOST_RESULT_LINES) (nomark _)) (pss_one (ps_raise rfl tk (pmk_ex0 (xk_TooMuch T) hr))) pss_nil)
    (pss_one (ps_ret (pv 2))))))), ?_⟩
  obtain ⟨S, L, cs, t, rfl, sa, hl, hcl, hco, htl, hts, q, o⟩ := h
  rw [run_is] at q o
  have tl : (t.map sV).length = t.length := List.length_map ..
  refine ⟨Nat.zero_le _, fun R hR => ?_⟩
  have e0 := same_new (o := .lst []) hR
  refine ⟨_, rfl, L, _, rfl, SqL.of (e0 _ _ hl), ?_⟩
  refine walk_from (K := K) (k := 1) (a := L) (xs := t.map sV) (fun i σ G => ∃ (acc : Text) (held : Line) (n l p : Option V), σ = [some (.ref S), some (.ref L), some (.ref R), some (sV held), n, l, p] ∧ LnAt G R acc ∧ Same H G ∧ outAll cs 1 [] t = (outAll cs (i + 1) held (t.drop i)).map (fun o => acc ++ o) ∧ held.length ≤ 16 ∧ acc.length ≤ 34 * i) ?_ ?_ ?_ ?_
  · refine ⟨[], [], none, none, none, rfl, upd_same, e0, ?_, Nat.zero_le _, Nat.zero_le _⟩
    rw [List.drop_zero]
    cases outAll cs 1 [] t <;> rfl
  · rintro i σ G ⟨acc, held, n, l, p, rfl, _, eG, _⟩
    exact SqL.of (eG _ _ hl)
  · rintro i x σ G T0 hx ⟨acc, held, n0, l0, p0, rfl, hacc, eG, eo, hh, hal⟩ hT
    obtain ⟨x, hxt, rfl⟩ := map_get hx
    have hi := get_lt hxt
    have hxl := hts x (List.mem_of_getElem? hxt)
    have eT := same_new (o := .tup [.int ((1 + i : Nat) : Int), sV x]) hT
    have eG1 := same_trans eG eT
    have hacc1 := eT _ _ hacc
    have nR : ∀ {c : Addr}, (upd G T0 (.tup [.int ((1 + i : Nat) : Int), sV x])) c = none → c ≠ R := fun z e => by rw [e, hacc1] at z; cases z
    refine ⟨T0, _, rfl, SqT.of upd_same, rfl, ?_⟩
    refine ⟨_, _, rfl, _, _, rfl, rfl, ?_⟩
    generalize hG1 : upd G T0 (.tup [.int ((1 + i : Nat) : Int), sV x]) = G1 at eG1 hacc1 nR
    refine ⟨_, rfl, _, rfl, _, rfl, _, rfl, L, _, rfl, SqL.of (eG1 _ _ hl), rfl, _, rfl, fun c dc hc hdc ndc => ?_⟩
    have last : decide (V.int ((1 + i : Nat) : Int) = V.int ((t.map sV).length : Nat)) = (t.drop (i + 1)).isEmpty := by
      rw [drop_empty hi, tl]
      exact decide_eq_decide.mpr ⟨fun e => by have := V.int.inj e; omega, fun e => congrArg V.int (by omega)⟩
    rw [last, show ((1 + i : Nat) : Int) = ((i + 1 : Nat) : Int) by omega]
    have e2 : Same G1 (upd (upd G1 dc (.own c)) c (.ins A.sp dc [])) := same_upd (same_new hdc) hc
    refine ⟨c, dc, x, held, i + 1, _, rfl, upd_same, fun G2 a b ha hb sp bt => ⟨rfl, ?_⟩⟩
    have a0 : G1 a = none := none_back e2 ha
    have b0 : G1 b = none := none_back e2 hb
    have e3 : Same G1 G2 := fun u v hu => bt u v (ne_of_none hu hc) (e2 u v hu)
    have sa3 := (sa.same eG1).same e3
    obtain ⟨vs, hS, _⟩ := id (sa.same eG1)
    have k0 : (spot0 x (i + 1) (t.drop (i + 1)).isEmpty held).okn 0 := ⟨hxl, hh, Nat.le_refl _, fun l hl => by cases hl⟩
    have hd : t.drop i = x :: t.drop (i + 1) := drop_more hxt
    rw [hd, outAll_cons] at eo
    refine ⟨_, rfl, _, rfl, S, c, a, b, cs, _, rfl, sa3, sp, (ne_of_none hS a0), (ne_of_none hS b0), k0, by omega, hco, fun s' es G3 sp3 bt3 => ?_, fun en => ?_⟩
    · have es : goAll cs (spot0 x (i + 1) (t.drop (i + 1)).isEmpty held) = some s' := es
      have eo : outAll cs 1 [] t = ((outAll cs (i + 1 + 1) s'.held (t.drop (i + 1))).map fun o => spotOut s' ++ o).map fun o => acc ++ o := by rw [eo, es]; rfl
      have k1 := goAll_okn k0 (fun c hc => (hco c hc).d) es
      rw [Nat.zero_add] at k1
      obtain ⟨dx3, hp3⟩ := sp3.obj
      have e4 : Same G1 G3 := fun u v hu => bt3 u v (ne_of_none hu hc) (ne_of_none hu a0) (ne_of_none hu b0) (e3 u v hu)
      refine ⟨_, rfl, c, _, dx3, _, _, rfl, hp3, T.q_Spot.cl, T.q_Spot.no _ (by decide), rfl, ?_⟩
      refine ⟨_, rfl, .inl ⟨rfl, _, SqL.of (e4 _ _ hacc1)⟩, ?_⟩
      refine ⟨_, rfl, c, a, b, s', rfl, sp3, k1.ok (by omega), fun G4 D e5 hD hl4 => ?_⟩
      have sl : (spotOut s').length ≤ 17 := by
        unfold spotOut
        rw [List.length_append, List.length_append]
        have := k1.cnt
        split <;> simp <;> omega
      have hR4 : G4 R = some (.lst (acc.map sV)) := e5 _ _ (e4 _ _ hacc1)
      refine ⟨R, D, _, _, rfl, rfl, hR4, hl4, sz_of (by rw [List.length_map, List.length_map]; omega), ?_⟩
      refine ⟨acc ++ spotOut s', s'.held, _, _, _, rfl, by show upd _ R _ R = _; rw [upd_same, List.map_append], ?_, ?_, k1.held, by rw [List.length_append]; omega⟩
      · exact same_upd (same_trans (same_trans eG1 e4) e5) hR
      · rw [eo, Option.map_map]
        congr 1
        funext o
        show acc ++ (spotOut s' ++ o) = acc ++ spotOut s' ++ o
        rw [List.append_assoc]
    · have en : goAll cs (spot0 x (i + 1) (t.drop (i + 1)).isEmpty held) = none := en
      have eo : outAll cs 1 [] t = none := by rw [eo, en]; rfl
      rw [eo] at o
      exact fun H' d bt' hd' => (o rfl) H' d (fun u v hu => bt' u v (ne_of_none (eG1 _ _ hu) hc) (ne_of_none (eG1 _ _ hu) a0) (ne_of_none (eG1 _ _ hu) b0) (e3 _ _ (eG1 u v hu))) hd'
  · rintro σ G ⟨acc, held, n, l, p, rfl, hacc, eG, eo, _, hal⟩
    rw [tl, List.drop_length] at eo
    have eo : outAll cs 1 [] t = some acc := by rw [eo]; show some (acc ++ []) = _; rw [List.append_nil]
    rw [eo] at q o
    have q : ∀ o, (if 60 < acc.length then none else some acc) = some o → _ := q
    have o : (if 60 < acc.length then none else some acc) = none → _ := o
    refine ⟨_, rfl, R, _, rfl, SqL.of hacc, ?_⟩
    rw [show (acc.map sV).length = acc.length from List.length_map ..]
    refine ⟨_, _, rfl, rfl, _, rfl, if_2 (fun k => ?_) fun k => ?_⟩
    · have k : 60 < acc.length := by have := of_decide_eq_true k; omega
      exact raise0 T.x_TooMuch ((o (if_pos k)).mono eG)
    · have k : ¬ 60 < acc.length := by have := of_decide_eq_false k; omega
      exact ⟨_, rfl, q acc (if_neg k) G R eG hR hacc⟩
end
end Lp
/-! What is read is within its bounds. -/
namespace Lp
open VasedBase Vaseda
def TOk (l : Toks) : Prop := ∀ m ∈ l, tokOk m.tok
def Suf (l' l : Toks) : Prop := ∀ m ∈ l', m ∈ l
theorem TOk.suf {l l' : Toks} (h : TOk l) (s : Suf l' l) : TOk l' := fun m hm => h m (s m hm)
theorem Suf.drop (l : Toks) (k : Nat) : Suf (l.drop k) l := fun m hm => List.mem_of_mem_drop hm
theorem Suf.trans {a b c : Toks} (x : Suf a b) (y : Suf b c) : Suf a c := fun m hm => y m (x m hm)
theorem Suf.refl (a : Toks) : Suf a a := fun _ h => h
theorem letters_r {l : Toks} {x : Bytes × Toks} (k : TOk l) (h : takeLetters l = .ok x) : x.1 ≠ [] ∧ x.1.length ≤ 8 ∧ Suf x.2 l := by
  unfold takeLetters at h
  obtain ⟨y, e, rfl⟩ := map_ok h
  unfold takeName at e
  split at e
  · rename_i p b r
    have kb : tokOk (.name b) := k ⟨p, .name b⟩ List.mem_cons_self
    split at e
    · cases e
    · cases e
      exact ⟨kb.1, kb.2.2, fun m hm => List.mem_cons_of_mem _ hm⟩
  · cases e
theorem num_r {lo hi : Nat} {l : Toks} {x : Nat × Toks} (h : takeNum lo hi l = .ok x) : Suf x.2 l := by
  unfold takeNum at h
  split at h
  · split at h
    · cases h
    · cases h; exact fun m hm => List.mem_cons_of_mem _ hm
  · cases h
theorem taken_r {t : Tok} {l l' : Toks} (h : taken t l = .ok l') : Suf l' l := by
  unfold taken at h
  split at h
  · cases h; exact .drop l 1
  · cases h
theorem addr_r : ∀ (f n : Nat) (l : Toks) (x : Addr × Toks), n ≤ 3 → takeAddr f n l = .ok x → depth x.1 + n ≤ 3 ∧ Suf x.2 l
  | 0, _, _, _, _, h => by cases h
  | f + 1, n, l, x, hn, h => by
    have d := Suf.drop l 1
    unfold takeAddr at h
    split at h
    · cases h; exact ⟨by show 0 + n ≤ 3; omega, d⟩
    split at h
    · obtain ⟨y, e, rfl⟩ := map_ok h
      exact ⟨by show 0 + n ≤ 3; omega, (num_r e).trans d⟩
    split at h
    · obtain ⟨y, e, h⟩ := bind_ok h
      obtain ⟨y2, e2, h⟩ := bind_ok h
      obtain ⟨y3, e3, rfl⟩ := map_ok h
      exact ⟨by show 0 + n ≤ 3; omega, (((num_r e3).trans (taken_r e2)).trans (num_r e)).trans d⟩
    split at h
    · cases h; exact ⟨by show 0 + n ≤ 3; omega, d⟩
    split at h
    · obtain ⟨y, e, rfl⟩ := map_ok h
      refine ⟨by show 0 + n ≤ 3; omega, ?_⟩
      unfold takeLetters at e
      obtain ⟨z, e, rfl⟩ := map_ok e
      unfold takeName at e
      split at e
      · rename_i hl
        split at e
        · cases e
        · cases e
          exact fun m hm => d m (by rw [hl]; exact List.mem_cons_of_mem _ hm)
      · cases e
    split at h
    · obtain ⟨y, e, rfl⟩ := map_ok h
      refine ⟨by show 0 + n ≤ 3; omega, ?_⟩
      unfold takeLetters at e
      obtain ⟨z, e, rfl⟩ := map_ok e
      unfold takeName at e
      split at e
      · rename_i hl
        split at e
        · cases e
        · cases e
          exact fun m hm => d m (by rw [hl]; exact List.mem_cons_of_mem _ hm)
      · cases e
    split at h
    · split at h
      · cases h
      · rename_i c
        have c : ¬ 3 ≤ n := c
        obtain ⟨y, e, rfl⟩ := map_ok h
        obtain ⟨h1, h2⟩ := addr_r f (n + 1) _ y (by omega) e
        exact ⟨by show depth y.1 + 1 + n ≤ 3; omega, h2.trans d⟩
    · cases h
theorem two_r {f : Bytes → Bytes → Deed} {l : Toks} {x : Deed × Toks} (k : TOk l) (h : takeTwo f l = .ok x) : ∃ a b, x.1 = f a b ∧ a ≠ [] ∧ b.length ≤ 8 ∧ Suf x.2 l := by
  unfold takeTwo at h
  obtain ⟨y, e, h⟩ := bind_ok h
  obtain ⟨y2, e2, rfl⟩ := map_ok h
  obtain ⟨h1, h2, h3⟩ := letters_r k e
  unfold takeInstead at e2
  split at e2
  · cases e2
    exact ⟨_, _, rfl, h1, Nat.zero_le _, (Suf.drop _ _).trans h3⟩
  · obtain ⟨g1, g2, g3⟩ := letters_r (k.suf h3) e2
    exact ⟨_, _, rfl, h1, g2, g3.trans h3⟩
theorem deed_r {l : Toks} {x : Deed × Toks} (k : TOk l) (h : takeDeed l = .ok x) : deedOk x.1 ∧ Suf x.2 l := by
  have d := Suf.drop l 1
  have kd := k.suf d
  unfold takeDeed at h
  dsimp only at h
  split at h
  · cases h; exact ⟨True.intro, d⟩
  split at h
  · obtain ⟨y, e, rfl⟩ := map_ok h
    obtain ⟨h1, h2, h3⟩ := letters_r kd e
    exact ⟨h2, h3.trans d⟩
  split at h
  · obtain ⟨y, e, rfl⟩ := map_ok h
    obtain ⟨h1, h2, h3⟩ := letters_r kd e
    exact ⟨h2, h3.trans d⟩
  split at h
  · obtain ⟨y, e, rfl⟩ := map_ok h
    obtain ⟨h1, h2, h3⟩ := letters_r kd e
    exact ⟨h2, h3.trans d⟩
  split at h
  · obtain ⟨a, b, e, h1, h2, h3⟩ := two_r kd h
    rw [e]
    exact ⟨⟨h1, h2⟩, h3.trans d⟩
  split at h
  · obtain ⟨a, b, e, h1, h2, h3⟩ := two_r kd h
    rw [e]
    exact ⟨⟨h1, h2⟩, h3.trans d⟩
  split at h
  · cases h; exact ⟨True.intro, d⟩
  split at h
  · cases h; exact ⟨True.intro, d⟩
  split at h
  · cases h; exact ⟨True.intro, d⟩
  split at h
  · obtain ⟨y, e, rfl⟩ := map_ok h
    exact ⟨True.intro, (num_r e).trans d⟩
  split at h
  · cases h; exact ⟨True.intro, d⟩
  · cases h
theorem cmd_r {l : Toks} {x : Cmd × Toks} (k : TOk l) (h : takeCmd l = .ok x) : CmdOk x.1 ∧ Suf x.2 l := by
  unfold takeCmd at h
  obtain ⟨a, ea, h⟩ := bind_ok h
  obtain ⟨d, ed, h⟩ := bind_ok h
  obtain ⟨m, em, rfl⟩ := map_ok h
  have h1 : depth a.1 ≤ 3 ∧ Suf a.2 l := by
    split at ea
    · obtain ⟨q1, q2⟩ := addr_r _ _ _ _ (Nat.zero_le _) ea
      exact ⟨q1, q2.trans (.drop l 1)⟩
    · cases ea; exact ⟨Nat.zero_le _, .refl _⟩
  obtain ⟨h2, h3⟩ := deed_r (k.suf h1.2) ed
  exact ⟨⟨h2, h1.1⟩, ((taken_r em).trans h3).trans h1.2⟩
theorem cmds_r : ∀ (n : Nat) (cs : Script) (l : Toks) (s : Script), TOk l → (∀ c ∈ cs, CmdOk c) → cs.length ≤ 16 → takeCmds n cs l = .ok s → s.length ≤ 16 ∧ ∀ c ∈ s, CmdOk c
  | 0, _, _, _, _, _, _, h => by cases h
  | n + 1, cs, l, s, k, kc, hl, h => by
    unfold takeCmds at h
    split at h
    · cases h; exact ⟨hl, kc⟩
    split at h
    · cases h
    · rename_i c
      have c : ¬ 16 ≤ cs.length := c
      obtain ⟨y, e, h⟩ := bind_ok h
      obtain ⟨h1, h2⟩ := cmd_r k e
      refine cmds_r n _ _ s (k.suf h2) (fun c hc => ?_) (by rw [List.length_append, List.length_singleton]; omega) h
      rcases List.mem_append.mp hc with z | z
      · exact kc c z
      · rw [List.mem_singleton.mp z]; exact h1
theorem read_r {b : Bytes} {s : Script} (h : Vaseda.read b = .ok s) : s.length ≤ 16 ∧ ∀ c ∈ s, CmdOk c := by
  unfold Vaseda.read at h
  obtain ⟨l, e, h⟩ := bind_ok h
  exact cmds_r _ _ _ _ (tokens_ok e).ok (fun c hc => by cases hc) (Nat.zero_le _) h
end Lp
set_option maxRecDepth 100000
set_option maxHeartbeats 4000000
/-! A list built by a comprehension whose item is a call that may raise. -/
namespace Lp
open PySem PySem.Spec PyProof.Rows L2
theorem note_at (e : Value) {c env : Env} (h : c.frame = env.frame) : noteFrame e c = noteFrame e env := by
  unfold noteFrame PySem.frameOf
  rw [h]
/-- the frames do not care for what is missing on the ground -/
theorem frames_less {h B B' : Heap} (le : ∀ b o, B'.get? b = some o → B.get? b = some o) : ∀ {l : List Env}, h.FunFrames B l → h.FunFrames B' l
  | [], _ => trivial
  | _ :: _, ⟨k, ⟨L, o, e, n, f⟩, r⟩ => ⟨k, ⟨L, o, e, (by
      cases q : B'.get? L with
      | none => rfl
      | some v => have z := le _ _ q; rw [n] at z; cases z), f⟩, frames_less le r⟩
theorem none_less {B B' : Heap} (le : ∀ b o, B'.get? b = some o → B.get? b = some o) {a : Addr} (n : B.get? a = none) : B'.get? a = none := by
  cases q : B'.get? a with
  | none => rfl
  | some v => have z := le _ _ q; rw [n] at z; cases z
section
variable {X : Cx}
/-- an exception out of a call, as it flies -/
theorem in_air {pins : Pins} {σ : L2.St} {H : Hp} {z y : Shared} {E : XK} {u : Value} (I : Inv X pins σ H z) (c : L2.CX X.prog X.w X.stack H z E u y) :
    ∃ (a : Addr) (B : Heap) (zI : Shared) (ps : Pins) (σ1 : L2.St) (G : Hp) (cls : Value) (d : Option Addr), u = .ref a ∧ Inv X ps σ1 G zI ∧ (∀ b o, zI.heap.get? b = some o → b ∉ frs X.stack → B.get? b = some o) ∧ zI.heap.UpToSlots y.heap ∧
      HandSPX.FlyingZ B X.stack a (Zc cls d) y.heap ∧ G a = none ∧ y.os = zI.os ∧ AllBare y.gens ∧ E cls d G := by
  have x := XE.of_call (W := fun cls d _ G => E cls d G) I (fun _ _ _ k => k) c
  obtain ⟨a0, B0, G0, cls0, d0, e0, ⟨f1, f2, f3, oe, vs, T, oT, ts, g1, g2, g3, g4, g5, g6, g7, g8, g9⟩, _⟩ := c
  obtain ⟨a, B, zI, ps, σ1, G, cls, d, e, J, nb, up, sky, na, os, ag, k⟩ := x
  refine ⟨a, B, zI, ps, σ1, G, cls, d, e, J, nb, up, ?_, na, os, ag, k⟩
  have ea : a0 = a := by rw [e0] at e; exact Value.ref.inj e
  subst ea
  rcases sky with ⟨_, _, _, oe', vs', h1, _, h3, h4⟩ | fl | ⟨_, _, _, oe', vs', T', oT', ts', h1, _, h3, h4, _, _, h7, h8, h9⟩
  · rw [g1] at h1; cases h1
    rw [g3] at h3; cases h3
    rw [g4] at h4; cases h4
  · exact fl
  · rw [g1] at h1; cases h1
    rw [g3] at h3; cases h3
    rw [g4] at h4; cases h4
    rw [g7] at h7; cases h7
    rw [g8] at h8; cases h8
    rw [g9] at h9; cases h9
/-- name = [f(..) for target in iter], what the call raises goes on -/
theorem ps_setLcR {i : Nat} {x : Str} {px : Pos} {elt tg iter : Expr} {scope : Scope} {own : List (Str × Nat)} {pos spos : Pos} {wi : TI} {g : TG} {te : TE} {E : XK} (hc : X.calm = true) (hs : X.stack = X.env :: X.outer) (hf : X.env.frame = some X.env.locals) (tk : Takes X fun cls d _ H => E cls d H) (nd : X.N.Nodup) (hx : X.N[i]? = some x) (hxl : X.env.scope.names.lookup x = some .local)
    (hsw : swapsWith (.ListComp elt [⟨tg, iter, [], 0⟩] scope pos) (some (.Name x px)) spos.line X.env = pure true) (hi : PI X tg iter wi) (ok : BlkOk X.N X.env.scope scope own)
    (hg : ∀ (y : Shared) (G : Hp) (c : Addr) (cells : List (Str × Addr)) (ws : List Addr), PG (X.blk y G scope (compEnvC scope cells c X.env) ws) tg g)
    (he : ∀ (y : Shared) (G : Hp) (c : Addr) (cells : List (Str × Addr)) (ws : List Addr) (pn : Pins) (xe : Value → Shared → Prop), (∀ σ, PassesAt (L2.CX X.prog X.w) ((X.blk y G scope (compEnvC scope cells c X.env) ws).tr pn xe) σ E) → PE ((X.blk y G scope (compEnvC scope cells c X.env) ws).tr pn xe) elt te)
    (hfs : ∀ x, foldedSetIterable iter X.env x = pure x := by intro _; rfl) :
    PS X (.Assign [.Name x px] (.ListComp elt [⟨tg, iter, [], 0⟩] scope pos) spos) (tAsg (tLc wi g tYes te (own.map (·.2))) (gName i)) := by
  refine ⟨fun pins z σ G DD I q => ?_⟩
  rw [exec_Assign_Name_used _ _ _ _ hsw]
  refine wpAny_bind (wpAny_standAt (wpAny_bind ?_))
  show wpAny _ X.A (do let _ ← comprehension (.ListComp elt [⟨tg, iter, [], 0⟩] scope pos) scope X.env (firstIterPos [⟨tg, iter, [], 0⟩] pos) (newList []) false (eval iter X.env) (some (assign (.Name x px) X.env))) _ _ z
  have q : tLc wi g tYes te (own.map (·.2)) σ G (fun v G1 => gName i v σ G1 DD.nx) := q
  have clo : ∀ y ∈ scope.names, y.2 = .free → ∃ c, X.env.cells.lookup y.1 = some c := fun y hy e => (ok.free y hy e).elim (fun k => I.ok.has _ (.inl k)) fun k => I.ok.has _ (.inr k)
  refine wpAny_bind (wpAny_mono (Q := fun _ y => SP X pins DD .next y) (E := X.xe) ?_ (fun _ y k => wpAny_pure (wpAny_pure k)) fun _ _ k => k)
  refine comprehension_at (use := some (assign (.Name x px) X.env)) rfl hfs (closure_ok clo) ok.kind (fun y hy e => by rw [ok.uniq y hy, e]) (wp_le (hi.run pins z σ G _ I q) fun xv z1 _ hx0 => wp_le hx0 fun itv z2 _ h2 => ?_)
  obtain ⟨it, fp, tn, J, G2, e, I2, T, st2, f2, q⟩ := h2
  subst e
  refine wpAny_newObj_type (newEnv_comp ?_) (by show 0 ≤ sizeLine; decide)
  generalize eD : z2.heap.objs.size = D
  have nD : G2 D = none := I2.hok.fresh (Nat.le_of_eq eD)
  obtain ⟨W, ⟨m0, w0⟩, turn⟩ := q D nD
  generalize e3 : ({ z2 with heap := z2.heap.push { cls := .type "list", data := .seq ([] : List Value).toArray } } : Shared) = z3
  have h3 : z3.heap = z2.heap.push { cls := .type "list", data := .seq ([] : List Value).toArray } := by rw [← e3]
  have I3 : Inv X pins σ (upd G2 D (.lst [])) z3 := by
    rw [← e3]
    refine I2.laid (t' := z2.toks) (fun b o e => Heap.get?_push_of_some _ e) (Nat.le_of_eq eD) ⟨Nat.zero_le _, [], 0, .nil, ?_⟩
    rw [← eD]
    exact Heap.get?_push_size _ rfl
  have f3 : ∀ b ∈ fp, FpOk X pins (upd G2 D (.lst [])) b ∧ b < z3.heap.objs.size := fun b hb => by
    obtain ⟨o, e, _⟩ := T.obj _ _ st2 b hb
    have lt := Heap.lt_size e
    refine ⟨⟨?_, (f2 b hb).2⟩, by rw [h3, Heap.size_push]; exact Nat.lt_succ_of_lt lt⟩
    rw [upd_ne (by rw [← eD]; exact Nat.ne_of_lt lt)]
    exact (f2 b hb).1
  have st3 : tn 0 z3.heap := T.keep _ _ _ st2 fun b _ o e => by rw [h3]; exact Heap.get?_push_of_some _ e
  have I4 := block_start I3 ok nd f3
  have nfp : ∀ b ∈ fp, (upd G2 D (.lst [])) b = none := fun b hb => (f3 b hb).1.1
  generalize eG : upd G2 D (.lst []) = G3 at I3 I4 w0 nfp f3
  show codeAny _ _ (.compStart (.ListComp elt [⟨tg, iter, [], 0⟩] scope pos) 0 (.ref it) (.ref D) (compEnvC scope (cellsFrom (z3.heap.objs.size + 1) scope.names (cloFrom X.env.cells scope.names [])) z3.heap.objs.size X.env)) (compEnds (model X.prog X.w) X.A X.xe (some (assign (.Name x px) X.env)) _ (.ref D) (compEnvC scope (cellsFrom (z3.heap.objs.size + 1) scope.names (cloFrom X.env.cells scope.names [])) z3.heap.objs.size X.env)) { z3 with heap := pushCells (z3.heap.push { cls := .type "dict", data := .dict #[] }) scope.names }
  have pg := hg z3 G3 z3.heap.objs.size (cellsFrom (z3.heap.objs.size + 1) scope.names (cloFrom X.env.cells scope.names [])) fp
  have pe := he z3 G3 z3.heap.objs.size (cellsFrom (z3.heap.objs.size + 1) scope.names (cloFrom X.env.cells scope.names [])) fp
  have cF : (compEnvC scope (cellsFrom (z3.heap.objs.size + 1) scope.names (cloFrom X.env.cells scope.names [])) z3.heap.objs.size X.env).frame = X.env.frame := rfl
  generalize ec : compEnvC scope (cellsFrom (z3.heap.objs.size + 1) scope.names (cloFrom X.env.cells scope.names [])) z3.heap.objs.size X.env = ce at I4 pg pe cF ⊢
  have cL : ce.locals = z3.heap.objs.size := by rw [← ec]; rfl
  have st4 : tn 0 (pushCells (z3.heap.push { cls := .type "dict", data := .dict #[] }) scope.names) := T.keep _ _ _ st3 fun b _ o e => pushCells_keeps _ _ _ _ (Heap.get?_push_of_some _ e)
  generalize e4 : ({ z3 with heap := pushCells (z3.heap.push { cls := .type "dict", data := .dict #[] }) scope.names } : Shared) = z4 at I4 ⊢
  have st4 : tn 0 z4.heap := by rw [← e4]; exact st4
  have stat : ∀ {σ1 : L2.St} {G1 : Hp} {y : Shared}, Inv (X.blk z3 G3 scope ce fp) [] σ1 G1 y → (∀ b ∈ fp, G1 b = none) → ∀ b ∈ fp, FpOk (X.blk z3 G3 scope ce fp) [] G1 b := fun {σ1 G1 y} K hn b hb =>
    ⟨hn b hb, (K.ok.exf b hb).1, K.ok.exfs b hb, .inl hb, fun x c e => (K.ok.exf b hb).2 x c e, fun p hp => by cases hp⟩
  -- back in the frame around
  have home : ∀ {ps : Pins} {σ1 : L2.St} {G1 : Hp} {y : Shared}, Inv (X.blk z3 G3 scope ce fp) ps σ1 G1 y → Inv X pins σ G1 y ∧ (∃ m, y.heap.Ns ce.locals m) ∧ FpOk X pins G1 ce.locals := fun {ps σ1 G1 y} K => by
    have nC : G1 z3.heap.objs.size = none := cL ▸ (show G1 ce.locals = none from K.free)
    obtain ⟨m, hn, _⟩ := K.loc
    refine ⟨I3.call' (ch := fp) K.os K.base K.hok K.bare fun b hb => ⟨(f3 b hb).1.2.2.2.1, (f3 b hb).1.2.1, (f3 b hb).1.2.2.2.2.1, (f3 b hb).1.2.2.2.2.2⟩, ⟨m, hn⟩, ?_⟩
    rw [cL]
    exact I3.fpOk (Nat.le_refl _) nC
  have loop : codeAny (model X.prog X.w) X.A (.compLoop (.ListComp elt [⟨tg, iter, [], 0⟩] scope pos) 0 (.ref it) (.ref D) ce) (compEnds (model X.prog X.w) X.A X.xe (some (assign (.Name x px) X.env)) (fun _ y => SP X pins DD .next y) (.ref D) ce) z4 := by
    refine compLoop_any (fun n y => ∃ i G1, Inv (X.blk z3 G3 scope ce fp) [] (wipe σ (own.map (·.2))) G1 y ∧ tn i y.heap ∧ (∀ b ∈ fp, G1 b = none) ∧ W i n G1) ?_ m0 ⟨0, G3, I4, st4, nfp, w0⟩
    rintro n z5 ⟨i5, G5, I5, st5, n5, w5⟩
    rcases turn i5 n G5 w5 with ⟨stop, fin⟩ | ⟨go, Nx, hNx, step⟩
    · refine thL (T.done (X.blk z3 G3 scope ce fp) rfl rfl rfl hc i5 [] z5 _ G5 (fun _ _ => False) I5 (stat I5 n5) st5 stop) fun r z6 _ ⟨er, I6⟩ => ?_
      subst er
      obtain ⟨I7, ⟨m, hn⟩, a0, a1, a2, a3, a4, a5⟩ := home I6
      show wpAny _ _ (assign (.Name x px) X.env (.ref D)) _ _ _
      refine wpAny_assign_Name (store_ok2 (v := V.ref D) I7 nd hx (.inl hxl) rfl (fun y2 K2 ⟨a, sb, ha⟩ => ?_) (.inr hxl))
      have ne : ce.locals ≠ a := by
        rcases ha with k | k
        · rw [k]; exact a1
        · exact fun e => a4 x a k e.symm
      exact ⟨m, hn.sameBut sb ne, fun h3 sb3 => ⟨_, G5, K2.turned (t' := y2.toks) (fun b o hb e => (sb3.2 b hb).trans e) a0 a1 a3 a4 a5, fin⟩⟩
    · refine thL (T.item (X.blk z3 G3 scope ce fp) rfl rfl rfl hc i5 [] z5 _ G5 (fun _ _ => False) I5 (stat I5 n5) st5 go) fun r z6 _ ⟨u, er, h6⟩ => ?_
      subst er
      refine thL h6 fun _ z7 _ ⟨x7, G7, I7, r7, y7, st7, n7⟩ => ?_
      have I7p := I7.pinned (stat I7 n7) (T.obj _ _ st7)
      refine thL (pg.run _ z7 _ G7 x7 u _ I7p r7 (step x7 G7 y7)) fun _ z8 _ ⟨σ8, G8, I8, hw8, q8⟩ => ?_
      refine wpAny_tests_nil ?_
      rw [if_pos rfl]
      have q8 : te σ8 G8 fun y G9 => ∃ acc, G9 D = some (.lst acc) ∧ acc.length < sizeLine ∧ Nx (upd G9 D (.lst (acc ++ [y]))) := q8
      have pass : ∀ σ, PassesAt (L2.CX X.prog X.w) ((X.blk z3 G3 scope ce fp).tr ((X.blk z3 G3 scope ce fp).pn ++ ([] ++ pinsAt fp z7.heap)) (notedBy (model X.prog X.w) X.A ce fun e y => compEnds (model X.prog X.w) X.A X.xe (some (assign (.Name x px) X.env)) (fun _ y => SP X pins DD .next y) (.ref D) ce (.error e) y)) σ E := by
        intro σ0 ps G0 y0 e y1 K0 c
        obtain ⟨a, B, zI, ps1, σ1, G1, cls, d, rfl, J, nb, up, fl, na, os, ag, k⟩ := in_air K0 c
        have J := J.ofTry I8.ok
        obtain ⟨J7, ⟨m, hn⟩, a0, a1, a2, a3, a4, a5⟩ := home J
        have hfr : X.A.frames = some (X.env :: X.outer) := by rw [I.ok.frames, hs]
        show wpAny (model X.prog X.w) X.A (noteFrame (.ref a) ce) _ _ y1
        rw [note_at _ cF]
        have fl : HandSPX.FlyingZ B (X.env :: X.outer) a (Zc cls d) y1.heap := by rw [← hs]; exact fl
        refine HandSPX.looks_onZ Zc.steady hfr hf fl fun h1 hh up1 => ?_
        -- the ground without the block's names
        obtain ⟨G', g1, g2⟩ := restrict zI.heap fun b => decide (b ≠ ce.locals)
        obtain ⟨B', b1, b2⟩ := restrict B fun b => decide (b ≠ ce.locals)
        have gB : ∀ b o, B'.get? b = some o → b ≠ ce.locals ∧ B.get? b = some o := fun b o e => by
          by_cases z : b = ce.locals
          · rw [b2 b (by simp [z])] at e; cases e
          · exact ⟨z, by rw [← b1 b (by simp [z])]; exact e⟩
        have gG : ∀ b o, G'.get? b = some o → b ≠ ce.locals ∧ zI.heap.get? b = some o := fun b o e => by
          by_cases z : b = ce.locals
          · rw [g2 b (by simp [z])] at e; cases e
          · exact ⟨z, by rw [← g1 b (by simp [z])]; exact e⟩
        have K := J7.turned (t' := zI.toks) (h' := G') (fun b o hb e => by rw [g1 b (by simp [hb])]; exact e) a0 a1 a3 a4 a5
        obtain ⟨hn1, hn2⟩ : (∃ m1, h1.Ns ce.locals m1) ∧ True := by
          obtain ⟨o, es, ep, ho, hd, r⟩ := hn
          obtain ⟨sl, e⟩ := up _ _ ho fun vs z => by rw [hd] at z; cases z
          obtain ⟨sl1, e1⟩ := up1 _ _ e fun vs z => by rw [show o.data = .fields vs from z] at hd; cases hd
          exact ⟨⟨m, _, es, ep, e1, hd, r⟩, trivial⟩
        obtain ⟨m1, hn1⟩ := hn1
        refine ⟨m1, hn1, fun h2 m2 hn2 sb => ?_⟩
        obtain ⟨k1, k2, k3, oe, vs, T0, oT, ts, t1, t2, t3, t4, t5, t6, t7, t8, t9⟩ := hh
        have neC : ∀ {b : Addr} {o : Obj} {vs : Array Value}, h1.get? b = some o → o.data = .fields vs → b ≠ ce.locals := fun {b o vs} e d z => by
          obtain ⟨o', es, ep, ho, hd, _⟩ := hn1
          rw [z, ho] at e; cases e
          rw [hd] at d; cases d
        have hh' : HandSPX.HeldZ B' (X.env :: X.outer) a (Zc cls d) X.env.locals h2 := by
          refine ⟨fun b o e => ?_, none_less (fun b o e => (gB b o e).2) k2, ?_, oe, vs, T0, oT, ts, ?_, t2, t3, t4, none_less (fun b o e => (gB b o e).2) t5, t6, ?_, t8, t9⟩
          · obtain ⟨z, e⟩ := gB b o e
            exact (sb.2 b z).trans (k1 b o e)
          · refine frames_less (fun b o e => (gB b o e).2) (Heap.FunFrames.sameBut sb hn2 k3)
          · exact (sb.2 a (neC t1 t3)).trans t1
          · exact (sb.2 T0 (neC t7 t8)).trans t7
        have n2 : h2.get? a = some oe := (sb.2 a (neC t1 t3)).trans t1
        show wpAny _ _ (PySem.passOn "comprehension.variables-let-go" (.ref a) ce : Sem Value) _ _ _
        unfold PySem.passOn
        refine wpAny_bind (wpAny_field n2 t3 t4 ?_)
        rw [if_neg (show ¬ ((Value.ref T0 == Value.none) = true) from by simp)]
        rw [cF, hf]
        refine wpAny_bind (HandSPX.setFlight_onZ hh' fun h3 hh3 up3 => ?_)
        refine wpAny_throw ?_
        refine tk _ _ ⟨a, B', { zI with heap := G', toks := zI.toks }, pins, σ, G1, cls, d, rfl, K, fun b o e hb => ?_, ?_, ?_, na, os, ag, k⟩
        · obtain ⟨z, e⟩ := gG b o e
          rw [b1 b (by simp [z])]
          exact nb b o e hb
        · intro b o e hnf
          obtain ⟨z, e⟩ := gG b o e
          obtain ⟨s1, e1⟩ := up b o e hnf
          obtain ⟨s2, e2⟩ := up1 b _ e1 hnf
          obtain ⟨s3, e3⟩ := up3 b _ ((sb.2 b z).trans e2) hnf
          exact ⟨s3, e3⟩
        · rw [hs]
          exact .inr (.inr hh3)
      refine wpAny_mono ((pe _ _ pass).run [] z8 σ8 G8 _ (I8.toTry _) q8) (fun v z9 k => ?_) fun _ _ k => k
      obtain ⟨v9, G9, I9, rv, acc, hD9, hz9, nx⟩ := k
      have I9 := I9.ofTry I8.ok
      refine app_ok (X := X.blk z3 G3 scope ce fp) I9 hD9 hz9 rv fun y K => ?_
      obtain ⟨m', lt, w'⟩ := hNx _ nx
      have pin : ∀ b ∈ fp, ∀ o, z7.heap.get? b = some o → y.heap.get? b = some o ∧ (upd G9 D (.lst (acc ++ [v9]))) b = none := fun b hb o e =>
        let k := K.pin (b, o) (List.mem_append_right _ (List.mem_append_right _ (mem_pinsAt hb e)))
        ⟨k.1, k.2.1⟩
      have len : (wipe σ (own.map (·.2))).length = σ8.length := by rw [← hw8, wipe_length]
      refine ⟨m', lt, i5 + 1, _, (K.unpinned (pins := [])).weak len fun j v' e => ?_, T.keep _ _ _ st7 fun b hb o e => (pin b hb o e).1, fun b hb => ?_, w'⟩
      · rw [← hw8] at e
        exact (wipe_some e).1
      · obtain ⟨o, e, _⟩ := T.obj _ _ st7 b hb
        exact (pin b hb o e).2
  exact codeAny_compStart_list loop (T.self X.A 0 _ _ _ st4 loop)
end
end Lp
set_option maxRecDepth 100000
set_option maxHeartbeats 2000000
/-! Bounds of patches, changes and scripts by numbers. -/
namespace Lp
open VasedBase (Bytes word showNat textRow)
open Vaseda (Line Text Cmd Script showCmd readText)
open Vasedc
theorem line_side {p : Patch} {o : Op} (h : o ∈ p) : lineIn o ∈ before_ p ∨ lineIn o ∈ made p := by
  cases o with
  | keep x => exact .inl (List.mem_filterMap.mpr ⟨_, h, rfl⟩)
  | drop x => exact .inl (List.mem_filterMap.mpr ⟨_, h, rfl⟩)
  | put x => exact .inr (List.mem_filterMap.mpr ⟨_, h, rfl⟩)
theorem patch_lines {t u : Text} {n : Nat} (ht : ∀ x ∈ t, x.length ≤ n) (hu : ∀ x ∈ u, x.length ≤ n) : ∀ o ∈ patch t u, (lineIn o).length ≤ n := fun o ho => by
  obtain ⟨h1, h2, _⟩ := patch_sides t u
  rcases line_side ho with h | h
  · rw [h1] at h; exact ht _ h
  · rw [h2] at h; exact hu _ h
theorem patch_short {t u : Text} : (patch t u).length ≤ t.length + u.length := (patch_sides t u).2.2
theorem turned_len (p : Patch) : (turned p).length = p.length := List.length_map ..
theorem turned_lines {p : Patch} {n : Nat} (h : ∀ o ∈ p, (lineIn o).length ≤ n) : ∀ o ∈ turned p, (lineIn o).length ≤ n := fun o ho => by
  obtain ⟨o', h1, e⟩ := List.mem_map.mp ho
  have z := h o' h1
  subst e
  cases o' <;> exact z
theorem hunksBy_at : ∀ (f n : Nat) (kept : Text) (p : Patch), (hunksBy f n kept p).length ≤ p.length ∧ ∀ h ∈ hunksBy f n kept p, h.at_ ≤ n + p.length
  | 0, _, _, _ => ⟨Nat.zero_le _, fun h hh => by cases hh⟩
  | f + 1, n, kept, [] => ⟨Nat.zero_le _, fun h hh => by cases hh⟩
  | f + 1, n, kept, .keep x :: r => by
    obtain ⟨h1, h2⟩ := hunksBy_at f (n + 1) (kept ++ [x]) r
    refine ⟨Nat.le_succ_of_le h1, fun h hh => ?_⟩
    have := h2 h hh
    rw [List.length_cons]
    omega
  | f + 1, n, kept, .drop x :: r => by
    have z : ((Op.drop x :: r).takeWhile fun o => !isKeep o).length + ((Op.drop x :: r).dropWhile fun o => !isKeep o).length = (Op.drop x :: r).length := by
      rw [← List.length_append, List.takeWhile_append_dropWhile]
    have c : 1 ≤ ((Op.drop x :: r).takeWhile fun o => !isKeep o).length := by
      rw [List.takeWhile_cons_of_pos rfl, List.length_cons]
      omega
    obtain ⟨h1, h2⟩ := hunksBy_at f (n + ((((Op.drop x :: r).takeWhile fun o => !isKeep o).filter isDrop).map lineIn).length) [] ((Op.drop x :: r).dropWhile fun o => !isKeep o)
    have old : ((((Op.drop x :: r).takeWhile fun o => !isKeep o).filter isDrop).map lineIn).length ≤ ((Op.drop x :: r).takeWhile fun o => !isKeep o).length := by
      rw [List.length_map]
      exact List.length_filter_le ..
    refine ⟨?_, fun h hh => ?_⟩
    · show (_ :: hunksBy f _ [] _).length ≤ _
      rw [List.length_cons]
      omega
    · have hh : h ∈ _ :: hunksBy f _ [] _ := hh
      rcases List.mem_cons.mp hh with e | hh
      · subst e
        exact Nat.le_add_right n _
      · have := h2 h hh
        omega
  | f + 1, n, kept, .put x :: r => by
    have z : ((Op.put x :: r).takeWhile fun o => !isKeep o).length + ((Op.put x :: r).dropWhile fun o => !isKeep o).length = (Op.put x :: r).length := by
      rw [← List.length_append, List.takeWhile_append_dropWhile]
    have c : 1 ≤ ((Op.put x :: r).takeWhile fun o => !isKeep o).length := by
      rw [List.takeWhile_cons_of_pos rfl, List.length_cons]
      omega
    obtain ⟨h1, h2⟩ := hunksBy_at f (n + ((((Op.put x :: r).takeWhile fun o => !isKeep o).filter isDrop).map lineIn).length) [] ((Op.put x :: r).dropWhile fun o => !isKeep o)
    have old : ((((Op.put x :: r).takeWhile fun o => !isKeep o).filter isDrop).map lineIn).length ≤ ((Op.put x :: r).takeWhile fun o => !isKeep o).length := by
      rw [List.length_map]
      exact List.length_filter_le ..
    refine ⟨?_, fun h hh => ?_⟩
    · show (_ :: hunksBy f _ [] _).length ≤ _
      rw [List.length_cons]
      omega
    · have hh : h ∈ _ :: hunksBy f _ [] _ := hh
      rcases List.mem_cons.mp hh with e | hh
      · subst e
        exact Nat.le_add_right n _
      · have := h2 h hh
        omega
theorem hunks_at (p : Patch) : (hunks p).length ≤ p.length ∧ ∀ h ∈ hunks p, h.at_ ≤ p.length := by
  obtain ⟨h1, h2⟩ := hunksBy_at (p.length + 1) 0 [] p
  exact ⟨h1, fun h hh => by have := h2 h hh; omega⟩
theorem hunks_small (p : Patch) : ∀ h ∈ hunks p, HSmall p.length h := by
  have z := chAt_small p p.length (Nat.le_refl _)
  unfold chAt at z
  rw [List.take_length, ch_hunks] at z
  exact z
/-! ### a script by numbers -/
structure NumCmd (m : Nat) (c : Cmd) : Prop where
  ex : ∃ n, n ≤ m ∧ ∃ x : Line, x.length ≤ 1000 ∧ (c = ⟨.line n, .delete⟩ ∨ c = ⟨.line n, .before x⟩ ∨ c = ⟨.line n, .after x⟩)
theorem num_more {m k : Nat} {c : Cmd} (h : NumCmd m c) (l : m ≤ k) : NumCmd k c := by
  obtain ⟨n, a, r⟩ := h.ex
  exact ⟨n, by omega, r⟩
theorem cmdsBy_num : ∀ (p : Patch) (n : Nat) (ahead : List Cmd) (gone : Bool) (m : Nat), (∀ o ∈ p, (lineIn o).length ≤ 1000) → n + p.length + 1 ≤ m → (∀ c ∈ ahead, NumCmd m c) → ∀ c ∈ cmdsBy n ahead gone p, NumCmd m c
  | [], n, ahead, gone, m, _, hm, ha => fun c hc => by
    have hc : c ∈ ahead ++ (if gone = true then [⟨.line n, .delete⟩] else []) := hc
    rcases List.mem_append.mp hc with h | h
    · exact ha c h
    · cases gone with
      | false => cases h
      | true =>
        have e : c = ⟨.line n, .delete⟩ := by simpa using h
        exact ⟨n, by omega, [], Nat.zero_le _, .inl e⟩
  | .put x :: r, n, ahead, gone, m, hl, hm, ha => by
    have hm : n + (r.length + 1) + 1 ≤ m := hm
    show ∀ c ∈ cmdsBy n (ahead ++ [if n = 0 then ⟨.line 1, .before x⟩ else ⟨.line n, .after x⟩]) gone r, _
    refine cmdsBy_num r n _ gone m (fun o ho => hl o (List.mem_cons_of_mem _ ho)) (by omega) fun c hc => ?_
    rcases List.mem_append.mp hc with h | h
    · exact ha c h
    · have xl : x.length ≤ 1000 := hl (.put x) List.mem_cons_self
      have e : c = (if n = 0 then ⟨.line 1, .before x⟩ else ⟨.line n, .after x⟩) := by simpa using h
      split at e
      · exact ⟨1, by omega, x, xl, .inr (.inl e)⟩
      · exact ⟨n, by omega, x, xl, .inr (.inr e)⟩
  | .keep x :: r, n, ahead, gone, m, hl, hm, ha => fun c hc => by
    have hm : n + (r.length + 1) + 1 ≤ m := hm
    have hc : c ∈ ahead ++ ((if gone = true then [⟨.line n, .delete⟩] else []) ++ cmdsBy (n + 1) [] false r) := hc
    rcases List.mem_append.mp hc with h | h
    · exact ha c h
    · rcases List.mem_append.mp h with h | h
      · cases gone with
        | false => cases h
        | true =>
          have e : c = ⟨.line n, .delete⟩ := by simpa using h
          exact ⟨n, by omega, [], Nat.zero_le _, .inl e⟩
      · exact cmdsBy_num r (n + 1) [] false m (fun o ho => hl o (List.mem_cons_of_mem _ ho)) (by omega) (fun c hc => by cases hc) c h
  | .drop x :: r, n, ahead, gone, m, hl, hm, ha => fun c hc => by
    have hm : n + (r.length + 1) + 1 ≤ m := hm
    have hc : c ∈ ahead ++ ((if gone = true then [⟨.line n, .delete⟩] else []) ++ cmdsBy (n + 1) [] true r) := hc
    rcases List.mem_append.mp hc with h | h
    · exact ha c h
    · rcases List.mem_append.mp h with h | h
      · cases gone with
        | false => cases h
        | true =>
          have e : c = ⟨.line n, .delete⟩ := by simpa using h
          exact ⟨n, by omega, [], Nat.zero_le _, .inl e⟩
      · exact cmdsBy_num r (n + 1) [] true m (fun o ho => hl o (List.mem_cons_of_mem _ ho)) (by omega) (fun c hc => by cases hc) c h
theorem num_show {c : Cmd} (h : NumCmd 200 c) : (showCmd c).length ≤ 10000 := by
  obtain ⟨n, hn, x, xl, e⟩ := h.ex
  have s := show_len ⟨n, by omega⟩
  have s : (showNat n).length ≤ 3 := s
  have w1 : (word "if ").length = 3 := by decide +kernel
  have w2 : (word " ").length = 1 := by decide +kernel
  have w3 : (word " ;").length = 2 := by decide +kernel
  have w4 : (word "delete").length = 6 := by decide +kernel
  have w5 : (word "before ").length = 7 := by decide +kernel
  have w6 : (word "after ").length = 6 := by decide +kernel
  have w7 : (word "line ").length = 5 := by decide +kernel
  rcases e with e | e | e
  · subst e
    show (word "if " ++ ((word "line " ++ showNat n) ++ word " ") ++ (word "delete" ++ (word " ;" ++ [10]))).length ≤ _
    simp only [List.length_append, w1, w2, w3, w4, w7, List.length_cons, List.length_nil]
    omega
  · subst e
    show (word "if " ++ ((word "line " ++ showNat n) ++ word " ") ++ ((word "before " ++ x) ++ (word " ;" ++ [10]))).length ≤ _
    simp only [List.length_append, w1, w2, w3, w5, w7, List.length_cons, List.length_nil]
    omega
  · subst e
    show (word "if " ++ ((word "line " ++ showNat n) ++ word " ") ++ ((word "after " ++ x) ++ (word " ;" ++ [10]))).length ≤ _
    simp only [List.length_append, w1, w2, w3, w6, w7, List.length_cons, List.length_nil]
    omega
theorem scriptOf_ok {p : Patch} {s : Script} (hl : ∀ o ∈ p, (lineIn o).length ≤ 1000) (hp : p.length + 1 ≤ 200) (h : scriptOf p = some s) : s.length ≤ 16 ∧ ∀ c ∈ s, (showCmd c).length ≤ 10000 := by
  unfold scriptOf at h
  dsimp only at h
  split at h
  · cases h
  · rename_i n
    cases h
    exact ⟨Nat.le_of_not_lt fun k => n (.inr (.inr k)), fun c hc => num_show (cmdsBy_num p 0 [] false 200 hl (by omega) (fun c hc => by cases hc) c hc)⟩
end Lp
set_option maxRecDepth 100000
set_option maxHeartbeats 4000000
namespace Lp
open PySem PySem.Spec PyProof.Rows L2
open VasedBase (Bytes word textRow one)
open Vaseda (Line Text Cmd Script showCmd readText)
open Vasedc (Patch patch scriptOf turned Hunk hunks lineIn)
open VasedcNeutral (encode)
/-! ### the holder, the rows -/
theorem ne_hold {C C' d d' : Addr} {a b x : V} : HO.ins C d [("address", a), ("deed", b)] ≠ HO.ins C' d' [("commands", x)] := fun z => by
  injection z with _ _ h
  injection h with h _
  injection h with h _
  exact absurd h (by decide)
/-- what a script is made of stays -/
theorem ScriptAt.over {A : Ad} {H H' : Hp} {S : Addr} {s : Script} (k : ScriptAt A H S s) (e : ∀ b u, H b = some u → (∀ ps, u ≠ .tbl ps) → (∀ dx v, u ≠ .ins A.ho dx [("commands", v)]) → H' b = some u) : ScriptAt A H' S s := by
  obtain ⟨cs, h1, h2⟩ := k
  refine ⟨cs, e _ _ h1 (fun _ z => nomatch z) (fun _ _ z => nomatch z), h2.mono fun c m _ _ q => ?_⟩
  obtain ⟨dc, va, vd, q1, q2, q3⟩ := q
  have kt : KeepT H H' := fun _ _ h => e _ _ h (fun _ z => nomatch z) (fun _ _ z => nomatch z)
  exact ⟨dc, va, vd, e _ _ q1 (fun _ z => nomatch z) (fun _ _ z => ne_hold z), q2.keep kt, q3.keep ⟨kt, fun _ _ _ h => e _ _ h (fun _ z => nomatch z) (fun _ _ z => nomatch z)⟩⟩
/-- the object that the calls are made on -/
structure HoldAt (A : Ad) (H : Hp) (hd pt : Addr) (o : Option Script) : Prop where
  apart : ∃ xs, H pt = some (.lst xs)
  ex : ∃ dx v, H hd = some (.ins A.ho dx [("commands", v)]) ∧ (o = none → v = .non) ∧ ∀ s, o = some s → ∃ S, v = .ref S ∧ S ≠ pt ∧ ScriptAt A H S s ∧ s.length ≤ 16 ∧ ∀ c ∈ s, CmdOk c
theorem HoldAt.ext {A : Ad} {H H' : Hp} {hd pt : Addr} {o : Option Script} (k : HoldAt A H hd pt o) (e : LamX.ExtN H H') : HoldAt A H' hd pt o := by
  obtain ⟨xs, hx⟩ := k.apart
  obtain ⟨dx, v, h1, h2, h3⟩ := k.ex
  refine ⟨⟨xs, e _ _ hx (fun _ z => nomatch z)⟩, dx, v, e _ _ h1 (fun _ z => nomatch z), h2, fun s hs => ?_⟩
  obtain ⟨S, h4, h0, h5, h6⟩ := h3 s hs
  exact ⟨S, h4, h0, h5.over fun b u hb n _ => e b u hb n, h6⟩
theorem HoldAt.same {A : Ad} {H H' : Hp} {hd pt : Addr} {o : Option Script} (k : HoldAt A H hd pt o) (e : Same H H') : HoldAt A H' hd pt o := k.ext (LamX.ExtN.of e)
/-- all but the holder and the tables stays -/
def Fr (hd : Addr) (H H' : Hp) : Prop := ∀ b u, b ≠ hd → H b = some u → (∀ ps, u ≠ .tbl ps) → H' b = some u
theorem Fr.of {hd : Addr} {H H' : Hp} (e : Same H H') : Fr hd H H' := fun b u _ h _ => e b u h
theorem Fr.ofN {hd : Addr} {H H' : Hp} (e : LamX.ExtN H H') : Fr hd H H' := fun b u _ h n => e b u h n
theorem Fr.trans {hd : Addr} {H H1 H2 : Hp} (a : Fr hd H H1) (b : Fr hd H1 H2) : Fr hd H H2 := fun x u n h t => b x u n (a x u n h t) t
/-- no list stood there -/
def NewD (H : Hp) (D : Addr) : Prop := ∀ xs, H D ≠ some (.lst xs)
theorem NewD.of {H : Hp} {D : Addr} (h : H D = none) : NewD H D := fun xs z => by rw [h] at z; cases z
/-- the rows of a call -/
def RowsAt (H : Hp) (R : Addr) (rows : List Bytes) : Prop := ∃ rs : List Addr, H R = some (.lst (rs.map V.ref)) ∧ AllAt (fun r (b : Bytes) => H r = some (.lst (b.map iB))) rs rows
theorem RowsAt.ext {H H' : Hp} {R : Addr} {rows : List Bytes} (k : RowsAt H R rows) (e : LamX.ExtN H H') : RowsAt H' R rows := by
  obtain ⟨rs, h1, h2⟩ := k
  exact ⟨rs, e _ _ h1 (fun _ z => nomatch z), h2.mono fun _ _ _ _ q => e _ _ q (fun _ z => nomatch z)⟩
theorem RowsAt.one {H : Hp} {R : Addr} {a : Bytes} (k : RowsAt H R [a]) : ∃ r : Addr, H R = some (.lst [.ref r]) ∧ H r = some (.lst (a.map iB)) := by
  obtain ⟨rs, h1, h2⟩ := k
  obtain ⟨r, e, h⟩ := h2.get' (i := 0) rfl
  have l := h2.len
  rcases rs with _ | ⟨x, _ | ⟨y, rs⟩⟩
  · cases l
  · cases e; exact ⟨r, h1, h⟩
  · cases l
theorem RowsAt.two {H : Hp} {R : Addr} {a b : Bytes} (k : RowsAt H R [a, b]) : ∃ r s : Addr, H R = some (.lst [.ref r, .ref s]) ∧ H r = some (.lst (a.map iB)) ∧ H s = some (.lst (b.map iB)) := by
  obtain ⟨rs, h1, h2⟩ := k
  obtain ⟨r, e, h⟩ := h2.get' (i := 0) rfl
  obtain ⟨r', e', h'⟩ := h2.get' (i := 1) rfl
  have l := h2.len
  rcases rs with _ | ⟨x, _ | ⟨y, _ | ⟨z, rs⟩⟩⟩
  · cases l
  · cases l
  · cases e; cases e'; exact ⟨r, r', h1, h, h'⟩
  · cases l
theorem atI0 {x : V} {xs : List V} : atI (x :: xs) 0 = some x := at_n (j := 0) rfl rfl
theorem atI1 {x y : V} {xs : List V} : atI (x :: y :: xs) 1 = some y := at_n (j := 1) rfl rfl
theorem atI2 {x y z : V} {xs : List V} : atI (x :: y :: z :: xs) 2 = some z := at_n (j := 2) rfl rfl
section
variable {P : Program} {w : World} {K : PySem.W.Frag} {mg : Str → Option Value} {base : Heap} {A : Ad}
def spIniHolder (A : Ad) : Sp := fun vs H Q _ => ∃ (c dx : Addr), vs = [.ref c] ∧ H c = some (.ins A.ho dx []) ∧ ∀ H', But c H H' → H' c = some (.ins A.ho dx [("commands", .non)]) → Q .non H'
abbrev N_Holder___init__ : List Str := ["self"]
theorem sc_Holder___init__ : FnScope N_Holder___init__ ["self"] (defScope (inClass (top 111) 0)) := ⟨rfl, rfl, rfl, by decide +kernel, rfl, by decide +kernel, by decide +kernel⟩
theorem mk_Holder (T : Txt K mg A) : KOk P w K mg base 1 "Holder" A.ho (spIniHolder A) := by
  obtain ⟨f, fd, F, hm, b⟩ := T.i_Holder.ex
  refine ⟨f, fd, _, fn_mk F sc_Holder___init__ (fun vs H Q E ⟨_, _, e, _⟩ => by rw [e]; rfl) fun cdv AA outer s H vs Q E hr tk po h => ⟨_, (pss_one (ps_fld (pv 0) pe_non rfl)), ?_⟩, hm, b, T.q_Holder.gC⟩
  obtain ⟨c, dx, rfl, hc, q⟩ := h
  refine ⟨_, rfl, c, A.ho, dx, _, rfl, hc, T.q_Holder.cl, T.q_Holder.no _ (by decide), by decide, ?_⟩
  exact q _ .at_ upd_same
/-! ### the patch between two texts, the patch by a run -/
def spBetween (A : Ad) : Sp := fun vs H Q E => ∃ (R : Addr) (a b : Bytes), vs = [.ref R] ∧ RowsAt H R [a, b] ∧
  (∀ t u, readText a = some t → readText b = some u → New H Q fun H' D => MarksAt H' D (patch t u)) ∧ (readText a = none ∨ readText b = none → Out E H A.nt [("number", .int (-4))])
abbrev N_patch_between : List Str := ["rows"]
theorem sc_patch_between : FnScope N_patch_between ["rows"] (defScope (top 120)) := ⟨rfl, rfl, rfl, by decide +kernel, rfl, by decide +kernel, by decide +kernel⟩
theorem k_patch_between (T : Txt K mg A) : Ok P w K mg base 5 "patch_between" (spBetween A) := by
  refine ok_mk T.d_patch_between sc_patch_between (fun vs H Q E ⟨_, _, _, e, _⟩ => by rw [e]; rfl) fun f cdv AA outer s H vs Q E hr tk po h => ⟨_, (pss_one (ps_ret (pe_k (k_least_patch T) hr tk (pa_cons (pe_k (k_lines_of T) hr tk (pa_cons (pe_ix ix_list (pv 0) pe_int (fun _ _ => rfl)) pa_nil)) (pa_cons (pe_k (k_lines_of T) hr tk (pa_cons (pe_ix ix_list (pv 0) pe_int (fun _ _ => rfl)) pa_nil)) pa_nil))))), ?_⟩
  obtain ⟨R, a, b, rfl, rw_, q, o⟩ := h
  obtain ⟨r0, r1, h0, h1, h2⟩ := rw_.two
  refine ⟨_, rfl, R, _, 0, _, rfl, rfl, SqL.of h0, atI0, r0, a, rfl, h1, fun t et H1 D1 e1 n1 l1 => ?_, fun en => o (.inl en)⟩
  refine ⟨_, rfl, R, _, 1, _, rfl, rfl, SqL.of (e1 _ _ h0), atI1, r1, b, rfl, e1 _ _ h2, fun u eu H2 D2 e2 n2 l2 => ?_, fun en => (o (.inr en)).mono e1⟩
  have kt := readText_ok et
  have ku := readText_ok eu
  exact ⟨D1, D2, t, u, rfl, e2 _ _ l1, l2, by have := kt.len; omega, by have := ku.len; omega, fun H3 D3 e3 n3 m3 => q t u et eu H3 D3 (same_trans (same_trans e1 e2) e3) (none_back (same_trans e1 e2) n3) m3⟩
def spByRun (A : Ad) : Sp := fun vs H Q E => ∃ (hd r pt : Addr) (o : Option Script) (b : Bytes), vs = [.ref hd, .ref r] ∧ HoldAt A H hd pt o ∧ H r = some (.lst (b.map iB)) ∧
  (o = none → Out E H A.ns [("number", .int (-1))]) ∧ (∀ s, o = some s → readText b = none → Out E H A.nt [("number", .int (-4))]) ∧
  (∀ s t, o = some s → readText b = some t → runText s t = none → Out E H A.tm [("number", .int (-7))]) ∧
  (∀ s t u, o = some s → readText b = some t → runText s t = some u → (∀ x ∈ u, x.length ≤ 16) → u.length ≤ 60 → New H Q fun H' D => MarksAt H' D (patch t u))
theorem run_bounds {s : Script} {t u : Text} (hs : ∀ c ∈ s, CmdOk c) (ht : ∀ x ∈ t, x.length ≤ 16) (h : runText s t = some u) : (∀ x ∈ u, x.length ≤ 16) ∧ u.length ≤ 60 := by
  rw [run_is] at h
  cases e : outAll s 1 [] t with
  | none => rw [e] at h; cases h
  | some o =>
    rw [e] at h
    have h : (if 60 < o.length then none else some o) = some u := h
    split at h
    · cases h
    · rename_i n
      cases h
      exact ⟨outs_short (fun c hc => (hs c hc).d) ht (Nat.zero_le _) e, Nat.le_of_not_lt n⟩
abbrev N_patch_by_run : List Str := ["holder", "row", "lines"]
theorem sc_patch_by_run : FnScope N_patch_by_run ["holder", "row"] (defScope (top 121)) := ⟨rfl, rfl, rfl, by decide +kernel, rfl, by decide +kernel, by decide +kernel⟩
theorem k_patch_by_run (T : Txt K mg A) (DD : Dcts K mg w) : Ok P w K mg base 8 "patch_by_run" (spByRun A) := by
  refine ok_mk T.d_patch_by_run sc_patch_by_run (fun vs H Q E ⟨_, _, _, _, _, e, _⟩ => by rw [e]; rfl) fun f cdv AA outer s H vs Q E hr tk po h => ⟨_, (pss_cons (ps_if (pt_cmpR op_isN (pe_fld (pv 0) rfl) pe_non (nomark _)) (pss_one (ps_raise rfl tk (pmk_ex0 (xk_NoScriptHeld T) hr))) pss_nil)
    (pss_cons (ps_set (i := 2) sc_patch_by_run.nd rfl (Or.inl rfl) (pe_k (k_lines_of T) hr tk (pa_cons (pv 1) pa_nil)))
    (pss_one (ps_ret (pe_k (k_least_patch T) hr tk (pa_cons (pv 2) (pa_cons (pe_k (k_result_of T DD) hr tk (pa_cons (pe_fld (pv 0) rfl) (pa_cons (pv 2) pa_nil))) pa_nil))))))), ?_⟩
  obtain ⟨hd, r, pt, o, b, rfl, ho, hb, q1, q4, q7, q⟩ := h
  obtain ⟨dx, v, h1, h2, h3⟩ := id ho.ex
  refine ⟨_, rfl, hd, _, dx, _, _, rfl, h1, T.q_Holder.cl, T.q_Holder.no _ (by decide), rfl, ?_⟩
  cases o with
  | none =>
    rw [h2 rfl]
    exact ⟨rfl, _, rfl, if_2 (fun _ => raise0 T.x_NoScriptHeld (q1 rfl)) fun k => absurd rfl (of_decide_eq_false k)⟩
  | some s =>
    obtain ⟨S, rfl, _, sa, sl, sc⟩ := h3 s rfl
    refine ⟨rfl, _, rfl, if_2 (fun k => nomatch (of_decide_eq_true k)) fun _ => ?_⟩
    refine ⟨_, rfl, r, b, rfl, hb, fun t et H1 D1 e1 n1 l1 => ?_, fun en => q4 s rfl en⟩
    have kt := readText_ok et
    refine ⟨_, rfl, _, rfl, hd, _, dx, _, _, rfl, e1 _ _ h1, T.q_Holder.cl, T.q_Holder.no _ (by decide), rfl, _, rfl, ?_⟩
    refine ⟨S, D1, s, t, rfl, sa.same e1, l1, sl, sc, kt.len, kt.long, fun u eu H2 D2 e2 n2 l2 => ?_, fun en => (q7 s t rfl et en).mono e1⟩
    obtain ⟨b1, b2⟩ := run_bounds sc kt.long eu
    exact ⟨D1, D2, t, u, rfl, e2 _ _ l1, l2, by have := kt.len; omega, by omega, fun H3 D3 e3 n3 m3 => q s t u rfl et eu b1 b2 H3 D3 (same_trans (same_trans e1 e2) e3) (none_back (same_trans e1 e2) n3) m3⟩
end
end Lp
set_option maxRecDepth 100000
set_option maxHeartbeats 4000000
namespace Lp
open PySem PySem.Spec PyProof.Rows L2
open VasedBase (Bytes word textRow one Answer faulty)
open Vaseda (Line Text Cmd Script showCmd readText)
open Vasedc (Patch patch scriptOf turned Hunk hunks lineIn looked with1 with2 with3 patchAnswer scriptAnswer)
open VasedcNeutral (encode)
/-- the call with a number and its rows -/
def callN : Nat → List Bytes → Option Vasedc.Call
  | 0, [a] => some (.load a)
  | 1, [a, b] => some (.diff a b)
  | 2, [a] => some (.patch a)
  | 3, [a, b] => some (.script a b)
  | 4, [a] => some (.undo a)
  | 5, [a, b, c] => some (.drift a b c)
  | 6, [a, b, c] => some (.both a b c)
  | 7, [a, b] => some (.hunks a b)
  | _, _ => none
/-- what such a call does -/
def spCall (A : Ad) (i : Nat) : Sp := fun vs H Q E => ∃ (hd R pt : Addr) (o : Option Script) (rows : List Bytes) (c : Vasedc.Call), vs = [.ref hd, .ref R] ∧ callN i rows = some c ∧ HoldAt A H hd pt o ∧ RowsAt H R rows ∧ LamX.TabS H A.tb qN ∧
  (∀ H' D, Fr hd H H' → LamX.TabS H' A.tb qN → HoldAt A H' hd pt (Vasedc.step o c).1 → NewD H D → H' D = some (.lst ((encode (Vasedc.step o c).2).map V.int)) → Q (.ref D) H') ∧
  (∀ k, (Vasedc.step o c).2 = one k → ∀ H' d C, C ∈ [A.ns, A.nt, A.nn, A.tm] → Fr hd H H' → LamX.TabS H' A.tb qN → HoldAt A H' hd pt (Vasedc.step o c).1 → H' d = some (.xd [("number", .int k)]) → E (.ref C) (some d) H')
theorem read1 {a : Bytes} {f : Text → Answer} {t : Text} (h : readText a = some t) : with1 a f = f t := by unfold with1; rw [h]
theorem read1n {a : Bytes} {f : Text → Answer} (h : readText a = none) : with1 a f = one (-4) := by unfold with1; rw [h]
theorem read2 {a b : Bytes} {f : Text → Text → Answer} {t u : Text} (h : readText a = some t) (k : readText b = some u) : with2 a b f = f t u := by
  unfold with2
  rw [read1 h, read1 k]
theorem read2n {a b : Bytes} {f : Text → Text → Answer} (h : readText a = none ∨ readText b = none) : with2 a b f = one (-4) := by
  unfold with2
  cases e : readText a with
  | none => exact read1n e
  | some t =>
    rw [read1 e]
    rcases h with h | h
    · rw [e] at h; cases h
    · exact read1n h
section
variable {P : Program} {w : World} {K : PySem.W.Frag} {mg : Str → Option Value} {base : Heap} {A : Ad}
theorem told_ok {p : Patch} (h1 : p.length ≤ 1000) (h2 : ∀ o ∈ p, (lineIn o).length ≤ 16) : POk p := ⟨h1, fun o ho => Nat.le_trans (h2 o ho) (by decide)⟩
theorem ok_patch {a b : Bytes} {t u : Text} (ha : readText a = some t) (hb : readText b = some u) : (patch t u).length ≤ 48 ∧ ∀ o ∈ patch t u, (lineIn o).length ≤ 16 := by
  have kt := readText_ok ha
  have ku := readText_ok hb
  have z := patch_short (t := t) (u := u)
  have := kt.len
  have := ku.len
  exact ⟨by omega, patch_lines kt.long ku.long⟩
/-- the wishes of a call that leaves the holder as it is -/
theorem calm_wish {H : Hp} {Q : VK} {E : XK} {hd pt : Addr} {o : Option Script} {c : Vasedc.Call} {an : Answer} (es : Vasedc.step o c = (o, an)) (ho : HoldAt A H hd pt o) (tab : LamX.TabS H A.tb qN)
    (q : ∀ H' D, Fr hd H H' → LamX.TabS H' A.tb qN → HoldAt A H' hd pt (Vasedc.step o c).1 → NewD H D → H' D = some (.lst ((encode (Vasedc.step o c).2).map V.int)) → Q (.ref D) H')
    (q2 : ∀ k, (Vasedc.step o c).2 = one k → ∀ H' d C, C ∈ [A.ns, A.nt, A.nn, A.tm] → Fr hd H H' → LamX.TabS H' A.tb qN → HoldAt A H' hd pt (Vasedc.step o c).1 → H' d = some (.xd [("number", .int k)]) → E (.ref C) (some d) H') :
    (∀ l, encode an = l → NewL H Q (l.map V.int)) ∧ (∀ k C, an = one k → C ∈ [A.ns, A.nt, A.nn, A.tm] → Out E H C [("number", .int k)]) := by
  rw [es] at q q2
  exact ⟨fun l el H' D e n h => q H' D (Fr.of e) (tab_same tab e) (ho.same e) (NewD.of n) (by rw [el]; exact h), fun k C ek m H' d e h => q2 k ek H' d C m (Fr.of e) (tab_same tab e) (ho.same e) h⟩
abbrev N_call_diff : List Str := ["holder", "rows"]
theorem sc_call_diff : FnScope N_call_diff ["holder", "rows"] (defScope (top 113)) := ⟨rfl, rfl, rfl, by decide +kernel, rfl, by decide +kernel, by decide +kernel⟩
theorem k_call_diff (T : Txt K mg A) : Ok P w K mg base 9 "call_diff" (spCall A 1) := by
  refine ok_mk T.d_call_diff sc_call_diff (fun vs H Q E ⟨_, _, _, _, _, _, e, _⟩ => by rw [e]; rfl) fun f cdv AA outer s H vs Q E hr tk po h => ⟨_, (pss_one (ps_ret (pe_k (k_told_patch T) hr tk (pa_cons (pe_k (k_patch_between T) hr tk (pa_cons (pv 1) pa_nil)) pa_nil)))), ?_⟩
  obtain ⟨hd, R, pt, o, rows, c, rfl, ec, ho, rw_, tab, q, q2⟩ := h
  rcases rows with _ | ⟨a, _ | ⟨b, _ | ⟨z, rows⟩⟩⟩ <;> try cases ec
  obtain ⟨ok, no⟩ := calm_wish (an := with2 a b fun t u => patchAnswer (patch t u)) rfl ho tab q q2
  refine ⟨_, rfl, R, a, b, rfl, rw_, fun t u et eu H1 D1 e1 n1 m1 => ?_, fun en => no _ _ (read2n en) (by simp)⟩
  obtain ⟨l1, l2⟩ := ok_patch et eu
  refine ⟨D1, _, rfl, m1, told_ok (by omega) l2, fun H2 D2 e2 n2 l3 => ?_⟩
  exact ok _ (by rw [read2 et eu]; rfl) H2 D2 (same_trans e1 e2) (none_back e1 n2) l3
abbrev N_call_hunks : List Str := ["holder", "rows"]
theorem sc_call_hunks : FnScope N_call_hunks ["holder", "rows"] (defScope (top 119)) := ⟨rfl, rfl, rfl, by decide +kernel, rfl, by decide +kernel, by decide +kernel⟩
theorem k_call_hunks (T : Txt K mg A) : Ok P w K mg base 9 "call_hunks" (spCall A 7) := by
  refine ok_mk T.d_call_hunks sc_call_hunks (fun vs H Q E ⟨_, _, _, _, _, _, e, _⟩ => by rw [e]; rfl) fun f cdv AA outer s H vs Q E hr tk po h => ⟨_, (pss_one (ps_ret (pe_k (k_told_changes T) hr tk (pa_cons (pe_k (k_changes_of T) hr tk (pa_cons (pe_k (k_patch_between T) hr tk (pa_cons (pv 1) pa_nil)) pa_nil)) pa_nil)))), ?_⟩
  obtain ⟨hd, R, pt, o, rows, c, rfl, ec, ho, rw_, tab, q, q2⟩ := h
  rcases rows with _ | ⟨a, _ | ⟨b, _ | ⟨z, rows⟩⟩⟩ <;> try cases ec
  obtain ⟨ok, no⟩ := calm_wish (an := with2 a b fun t u => let l := hunks (patch t u); ⟨(l.length : Int), l.flatMap Vasedc.hunkRow⟩) rfl ho tab q q2
  refine ⟨_, rfl, R, a, b, rfl, rw_, fun t u et eu H1 D1 e1 n1 m1 => ?_, fun en => no _ _ (read2n en) (by simp)⟩
  obtain ⟨l1, l2⟩ := ok_patch et eu
  refine ⟨D1, _, rfl, m1, by omega, fun H2 D2 e2 n2 l3 => ?_⟩
  have hl := (hunks_at (patch t u)).1
  refine ⟨D2, _, rfl, l3, by omega, fun H3 D3 e3 n3 l4 => ?_⟩
  exact ok _ (by rw [read2 et eu]; rfl) H3 D3 (same_trans (same_trans e1 e2) e3) (none_back (same_trans e1 e2) n3) l4
theorem cmds_are (s : Script) : s.map cmdV = (s.map showCmd).map sV := by rw [List.map_map]; rfl
theorem shown_is {p : Patch} {s : Script} (h : scriptOf p = some s) : encode (scriptAnswer p) = (((s.map showCmd).length : Int) :: textRow (s.map showCmd).flatten) := by
  unfold scriptAnswer
  rw [h, List.length_map]
  rfl
theorem shown_none {p : Patch} (h : scriptOf p = none) : scriptAnswer p = one (-6) := by
  unfold scriptAnswer
  rw [h]
abbrev N_call_script : List Str := ["holder", "rows"]
theorem sc_call_script : FnScope N_call_script ["holder", "rows"] (defScope (top 115)) := ⟨rfl, rfl, rfl, by decide +kernel, rfl, by decide +kernel, by decide +kernel⟩
theorem k_call_script (T : Txt K mg A) : Ok P w K mg base 9 "call_script" (spCall A 3) := by
  refine ok_mk T.d_call_script sc_call_script (fun vs H Q E ⟨_, _, _, _, _, _, e, _⟩ => by rw [e]; rfl) fun f cdv AA outer s H vs Q E hr tk po h => ⟨_, (pss_one (ps_ret (pe_k (k_told_script T) hr tk (pa_cons (pe_k (k_numbered_script T) hr tk (pa_cons (pe_k (k_patch_between T) hr tk (pa_cons (pv 1) pa_nil)) pa_nil)) pa_nil)))), ?_⟩
  obtain ⟨hd, R, pt, o, rows, c, rfl, ec, ho, rw_, tab, q, q2⟩ := h
  rcases rows with _ | ⟨a, _ | ⟨b, _ | ⟨z, rows⟩⟩⟩ <;> try cases ec
  obtain ⟨ok, no⟩ := calm_wish (an := with2 a b fun t u => scriptAnswer (patch t u)) rfl ho tab q q2
  refine ⟨_, rfl, R, a, b, rfl, rw_, fun t u et eu H1 D1 e1 n1 m1 => ?_, fun en => no _ _ (read2n en) (by simp)⟩
  obtain ⟨l1, l2⟩ := ok_patch et eu
  have l3 : ∀ o ∈ patch t u, (lineIn o).length ≤ 1000 := fun o ho => Nat.le_trans (l2 o ho) (by decide)
  refine ⟨D1, _, rfl, m1, by omega, l3, fun sc es H2 D2 e2 n2 h2 => ?_, fun en => (no (-6) _ (by rw [read2 et eu]; exact shown_none en) (by simp)).mono e1⟩
  obtain ⟨b1, b2⟩ := scriptOf_ok l3 (by omega) es
  refine ⟨D2, sc.map showCmd, rfl, by rw [h2, cmds_are], by rw [List.length_map]; omega, fun x hx => ?_, fun H3 D3 e3 n3 h3 => ?_⟩
  · obtain ⟨c, hc, rfl⟩ := List.mem_map.mp hx
    exact b2 c hc
  · exact ok _ (by rw [read2 et eu]; exact shown_is es) H3 D3 (same_trans (same_trans e1 e2) e3) (none_back (same_trans e1 e2) n3) h3
/-- what comes of the script held -/
def ranA (b : Bytes) (f : Text → Text → Answer) : Option Script → Answer
  | none => one (-1)
  | some s => with1 b fun t => match Vaseda.run s t with
    | none => one (-7)
    | some r => f t (Vaseda.outText r)
theorem ran_no {b : Bytes} {f : Text → Text → Answer} {o : Option Script} (h : o = none) : ranA b f o = one (-1) := by rw [h]; rfl
theorem ran_nt {b : Bytes} {f : Text → Text → Answer} {o : Option Script} {s : Script} (h : o = some s) (n : readText b = none) : ranA b f o = one (-4) := by rw [h]; exact read1n n
theorem ran_tm {b : Bytes} {f : Text → Text → Answer} {o : Option Script} {s : Script} {t : Text} (h : o = some s) (e : readText b = some t) (n : runText s t = none) : ranA b f o = one (-7) := by
  rw [h]
  refine (read1 e).trans ?_
  rw [run_none.mpr n]
theorem ran_ok {b : Bytes} {f : Text → Text → Answer} {o : Option Script} {s : Script} {t u : Text} (h : o = some s) (e : readText b = some t) (n : runText s t = some u) : ranA b f o = f t u := by
  rw [h]
  refine (read1 e).trans ?_
  unfold runText at n
  cases z : Vaseda.run s t with
  | none => rw [z] at n; cases n
  | some r => rw [z] at n; cases n; rfl
abbrev N_call_patch : List Str := ["holder", "rows"]
theorem sc_call_patch : FnScope N_call_patch ["holder", "rows"] (defScope (top 114)) := ⟨rfl, rfl, rfl, by decide +kernel, rfl, by decide +kernel, by decide +kernel⟩
theorem k_call_patch (T : Txt K mg A) (DD : Dcts K mg w) : Ok P w K mg base 9 "call_patch" (spCall A 2) := by
  refine ok_mk T.d_call_patch sc_call_patch (fun vs H Q E ⟨_, _, _, _, _, _, e, _⟩ => by rw [e]; rfl) fun f cdv AA outer s H vs Q E hr tk po h => ⟨_, (pss_one (ps_ret (pe_k (k_told_patch T) hr tk (pa_cons (pe_k (k_patch_by_run T DD) hr tk (pa_cons (pv 0) (pa_cons (pe_ix ix_list (pv 1) pe_int (fun _ _ => rfl)) pa_nil))) pa_nil)))), ?_⟩
  obtain ⟨hd, R, pt, o, rows, c, rfl, ec, ho, rw_, tab, q, q2⟩ := h
  rcases rows with _ | ⟨b, _ | ⟨z, rows⟩⟩ <;> try cases ec
  obtain ⟨ok, no⟩ := calm_wish (an := ranA b (fun t u => patchAnswer (patch t u)) o) (by cases o <;> rfl) ho tab q q2
  obtain ⟨r0, h0, h1⟩ := rw_.one
  refine ⟨_, rfl, _, rfl, R, _, 0, _, rfl, rfl, SqL.of h0, atI0, hd, r0, pt, o, b, rfl, ho, h1, fun e => no _ _ (ran_no e) (by simp), fun s e en => no _ _ (ran_nt e en) (by simp),
    fun s t e et en => no _ _ (ran_tm e et en) (by simp), fun s t u e et eu u1 u2 H1 D1 e1 n1 m1 => ?_⟩
  have kt := readText_ok et
  have z := patch_short (t := t) (u := u)
  have := kt.len
  refine ⟨D1, _, rfl, m1, told_ok (by omega) (patch_lines kt.long u1), fun H2 D2 e2 n2 h2 => ?_⟩
  exact ok _ (congrArg encode (ran_ok e et eu)) H2 D2 (same_trans e1 e2) (none_back e1 n2) h2
abbrev N_call_undo : List Str := ["holder", "rows"]
theorem sc_call_undo : FnScope N_call_undo ["holder", "rows"] (defScope (top 116)) := ⟨rfl, rfl, rfl, by decide +kernel, rfl, by decide +kernel, by decide +kernel⟩
theorem k_call_undo (T : Txt K mg A) (DD : Dcts K mg w) : Ok P w K mg base 9 "call_undo" (spCall A 4) := by
  refine ok_mk T.d_call_undo sc_call_undo (fun vs H Q E ⟨_, _, _, _, _, _, e, _⟩ => by rw [e]; rfl) fun f cdv AA outer s H vs Q E hr tk po h => ⟨_, (pss_one (ps_ret (pe_k (k_told_script T) hr tk (pa_cons (pe_k (k_numbered_script T) hr tk (pa_cons (pe_k (k_turned_round T) hr tk (pa_cons (pe_k (k_patch_by_run T DD) hr tk (pa_cons (pv 0) (pa_cons (pe_ix ix_list (pv 1) pe_int (fun _ _ => rfl)) pa_nil))) pa_nil)) pa_nil)) pa_nil)))), ?_⟩
  obtain ⟨hd, R, pt, o, rows, c, rfl, ec, ho, rw_, tab, q, q2⟩ := h
  rcases rows with _ | ⟨b, _ | ⟨z, rows⟩⟩ <;> try cases ec
  obtain ⟨ok, no⟩ := calm_wish (an := ranA b (fun t u => scriptAnswer (turned (patch t u))) o) (by cases o <;> rfl) ho tab q q2
  obtain ⟨r0, h0, h1⟩ := rw_.one
  refine ⟨_, rfl, _, rfl, R, _, 0, _, rfl, rfl, SqL.of h0, atI0, hd, r0, pt, o, b, rfl, ho, h1, fun e => no _ _ (ran_no e) (by simp), fun s e en => no _ _ (ran_nt e en) (by simp),
    fun s t e et en => no _ _ (ran_tm e et en) (by simp), fun s t u e et eu u1 u2 H1 D1 e1 n1 m1 => ?_⟩
  have kt := readText_ok et
  have z := patch_short (t := t) (u := u)
  have := kt.len
  have es := ran_ok (b := b) (f := fun t u => scriptAnswer (turned (patch t u))) e et eu
  refine ⟨D1, _, rfl, m1, by omega, fun H2 D2 e2 n2 m2 => ?_⟩
  have tl := turned_len (patch t u)
  have l3 : ∀ o ∈ turned (patch t u), (lineIn o).length ≤ 1000 := turned_lines fun o ho => Nat.le_trans (patch_lines kt.long u1 o ho) (by decide)
  refine ⟨D2, _, rfl, m2, by omega, l3, fun sc esc H3 D3 e3 n3 h3 => ?_, fun en => (no (-6) _ (es.trans (shown_none en)) (by simp)).mono (same_trans e1 e2)⟩
  obtain ⟨b1, b2⟩ := scriptOf_ok l3 (by omega) esc
  refine ⟨D3, sc.map showCmd, rfl, by rw [h3, cmds_are], by rw [List.length_map]; omega, fun x hx => ?_, fun H4 D4 e4 n4 h4 => ?_⟩
  · obtain ⟨c, hc, rfl⟩ := List.mem_map.mp hx
    exact b2 c hc
  · exact ok _ ((congrArg encode es).trans (shown_is esc)) H4 D4 (same_trans (same_trans (same_trans e1 e2) e3) e4) (none_back (same_trans (same_trans e1 e2) e3) n4) h4
end
end Lp
set_option maxRecDepth 100000
set_option maxHeartbeats 2000000
/-! Bounds of a text to which changes were put. -/
namespace Lp
open VasedBase (Bytes)
open Vaseda (Line Text)
open Vasedc
theorem places_lo {lo n want i : Nat} (h : i ∈ placesBy lo n want) : lo ≤ i := by
  unfold placesBy at h
  obtain ⟨d, _, h⟩ := List.mem_flatMap.mp h
  rcases List.mem_append.mp h with h | h
  · split at h
    · rename_i c
      simp only [Bool.and_eq_true, decide_eq_true_eq] at c
      have e : i = want - d := by simpa using h
      omega
    · cases h
  · split at h
    · rename_i c
      simp only [Bool.and_eq_true, decide_eq_true_eq] at c
      have e : i = want + d := by simpa using h
      omega
    · cases h
def newsOf (hs : List Hunk) : Nat := (hs.map fun h => h.new.length).sum
theorem drift_len (t : Text) : ∀ (hs : List Hunk) (k e : Nat) (d : Int) (w : Text), driftBy t k e d hs = .ok w → w.length ≤ (t.length - e) + newsOf hs
  | [], k, e, d, w, h => by
    cases h
    rw [List.length_drop]
    exact Nat.le_add_right ..
  | h :: r, k, e, d, w, hd => by
    unfold driftBy at hd
    dsimp only at hd
    split at hd
    · cases hd
    · rename_i i hi
      have lo := places_lo (List.mem_of_find?_eq_some hi)
      cases z : driftBy t (k + 1) (i + h.old.length) ((i : Int) - (h.at_ : Int)) r with
      | error m => rw [z] at hd; cases hd
      | ok v =>
        rw [z] at hd
        cases hd
        have ih := drift_len t r _ _ _ v z
        show ((t.drop e).take (i - e) ++ (h.new ++ v)).length ≤ _
        rw [List.length_append, List.length_append, List.length_take, List.length_drop]
        show _ ≤ _ + (h.new.length + newsOf r)
        omega
theorem drift_lines (t : Text) {n : Nat} (ht : ∀ x ∈ t, x.length ≤ n) : ∀ (hs : List Hunk) (k e : Nat) (d : Int) (w : Text), (∀ h ∈ hs, ∀ x ∈ h.new, x.length ≤ n) → driftBy t k e d hs = .ok w → ∀ x ∈ w, x.length ≤ n
  | [], k, e, d, w, _, h => by
    cases h
    exact fun x hx => ht x (List.mem_of_mem_drop hx)
  | h :: r, k, e, d, w, hh, hd => by
    unfold driftBy at hd
    dsimp only at hd
    split at hd
    · cases hd
    · rename_i i hi
      cases z : driftBy t (k + 1) (i + h.old.length) ((i : Int) - (h.at_ : Int)) r with
      | error m => rw [z] at hd; cases hd
      | ok v =>
        rw [z] at hd
        cases hd
        have ih := drift_lines t ht r _ _ _ v (fun g hg => hh g (List.mem_cons_of_mem _ hg)) z
        intro x hx
        have hx : x ∈ (t.drop e).take (i - e) ++ (h.new ++ v) := hx
        rcases List.mem_append.mp hx with hx | hx
        · exact ht x (List.mem_of_mem_drop (List.mem_of_mem_take hx))
        · rcases List.mem_append.mp hx with hx | hx
          · exact hh h List.mem_cons_self x hx
          · exact ih x hx
theorem hunksBy_new : ∀ (f n : Nat) (kept : Text) (p : Patch), newsOf (hunksBy f n kept p) ≤ p.length ∧ ∀ h ∈ hunksBy f n kept p, ∀ x ∈ h.new, ∃ o ∈ p, lineIn o = x
  | 0, _, _, _ => ⟨Nat.zero_le _, fun h hh => by cases hh⟩
  | f + 1, n, kept, [] => ⟨Nat.zero_le _, fun h hh => by cases hh⟩
  | f + 1, n, kept, .keep x :: r => by
    obtain ⟨h1, h2⟩ := hunksBy_new f (n + 1) (kept ++ [x]) r
    exact ⟨Nat.le_succ_of_le h1, fun h hh y hy => let ⟨o, a, b⟩ := h2 h hh y hy; ⟨o, List.mem_cons_of_mem _ a, b⟩⟩
  | f + 1, n, kept, .drop x :: r => step f n kept (.drop x :: r) rfl fun n' kept' => hunksBy_new f n' kept' _
  | f + 1, n, kept, .put x :: r => step f n kept (.put x :: r) rfl fun n' kept' => hunksBy_new f n' kept' _
where
  step (f n : Nat) (kept : Text) (p : Patch) (e : hunksBy (f + 1) n kept p = ⟨n, kept.drop (kept.length - CONTEXT), ((p.takeWhile fun o => !isKeep o).filter isDrop).map lineIn, ((p.takeWhile fun o => !isKeep o).filter isPut).map lineIn, (takeKeeps (p.dropWhile fun o => !isKeep o)).take CONTEXT⟩ :: hunksBy f (n + (((p.takeWhile fun o => !isKeep o).filter isDrop).map lineIn).length) [] (p.dropWhile fun o => !isKeep o))
      (ih : ∀ n' kept', newsOf (hunksBy f n' kept' (p.dropWhile fun o => !isKeep o)) ≤ (p.dropWhile fun o => !isKeep o).length ∧ ∀ h ∈ hunksBy f n' kept' (p.dropWhile fun o => !isKeep o), ∀ x ∈ h.new, ∃ o ∈ (p.dropWhile fun o => !isKeep o), lineIn o = x) :
      newsOf (hunksBy (f + 1) n kept p) ≤ p.length ∧ ∀ h ∈ hunksBy (f + 1) n kept p, ∀ x ∈ h.new, ∃ o ∈ p, lineIn o = x := by
    have z : (p.takeWhile fun o => !isKeep o).length + (p.dropWhile fun o => !isKeep o).length = p.length := by
      rw [← List.length_append, List.takeWhile_append_dropWhile]
    have new : (((p.takeWhile fun o => !isKeep o).filter isPut).map lineIn).length ≤ (p.takeWhile fun o => !isKeep o).length := by
      rw [List.length_map]
      exact List.length_filter_le ..
    obtain ⟨h1, h2⟩ := ih (n + (((p.takeWhile fun o => !isKeep o).filter isDrop).map lineIn).length) []
    rw [e]
    refine ⟨?_, fun h hh x hx => ?_⟩
    · show (((p.takeWhile fun o => !isKeep o).filter isPut).map lineIn).length + newsOf _ ≤ _
      omega
    · rcases List.mem_cons.mp hh with g | hh
      · subst g
        obtain ⟨o, ho, eo⟩ := List.mem_map.mp hx
        exact ⟨o, (List.takeWhile_prefix _).mem ((List.mem_filter.mp ho).1), eo⟩
      · obtain ⟨o, ho, eo⟩ := h2 h hh x hx
        exact ⟨o, (List.dropWhile_suffix _).mem ho, eo⟩
theorem drift_ok {p : Patch} {t w : Text} {n : Nat} (hp : ∀ o ∈ p, (lineIn o).length ≤ n) (ht : ∀ x ∈ t, x.length ≤ n) (h : drift p t = .ok w) : w.length ≤ t.length + p.length ∧ ∀ x ∈ w, x.length ≤ n := by
  obtain ⟨h1, h2⟩ := hunksBy_new (p.length + 1) 0 [] p
  refine ⟨?_, drift_lines t ht _ 0 0 0 w (fun g hg x hx => ?_) h⟩
  · have := drift_len t _ 0 0 0 w h
    have : newsOf (hunks p) ≤ p.length := h1
    omega
  · obtain ⟨o, ho, eo⟩ := h2 g hg x hx
    rw [← eo]
    exact hp o ho
end Lp
set_option maxRecDepth 100000
set_option maxHeartbeats 4000000
namespace Lp
open PySem PySem.Spec PyProof.Rows L2
open VasedBase (Bytes word textRow one Answer faulty)
open Vaseda (Line Text Cmd Script showCmd readText)
open Vasedc (Patch patch scriptOf turned Hunk hunks lineIn looked with1 with2 with3 patchAnswer scriptAnswer drift driftBy costOf rowText nats)
open VasedcNeutral (encode)
theorem read3 {a b c : Bytes} {f : Text → Text → Text → Answer} {t u v : Text} (h : readText a = some t) (k : readText b = some u) (l : readText c = some v) : with3 a b c f = f t u v := by
  unfold with3
  rw [read2 h k, read1 l]
theorem read3n {a b c : Bytes} {f : Text → Text → Text → Answer} {i : Nat} {x : Bytes} (hx : [a, b, c][i]? = some x) (n : readText x = none) : with3 a b c f = one (-4) := by
  unfold with3
  cases e1 : readText a with
  | none => exact read2n (.inl e1)
  | some t =>
    cases e2 : readText b with
    | none => exact read2n (.inr e2)
    | some u =>
      rw [read2 e1 e2]
      match i, hx with
      | 0, hx => cases hx; rw [e1] at n; cases n
      | 1, hx => cases hx; rw [e2] at n; cases n
      | 2, hx => cases hx; exact read1n n
      | i + 3, hx => cases hx
section
variable {X : Cx} {k j : Nat} {x : Str} {sp : Sp} {E : XK} {p pos : Pos} {e : Expr} {es : List Expr} {t : TA}
/-- f(e, ..), where it is known that what f raises may pass -/
theorem pe_kp (c : Ok X.prog X.w X.K X.mg X.base k x sp) (hr : Room j X.A) (tk : ∀ σ, PassesAt (L2.CX X.prog X.w) X σ E) (ha : PA X (e :: es) t) (hk : k ≤ j := by decide) (hg : Gl X x := by rfl)
    (hdb : (x == ("__debug__" : Str)) = false := by decide) (he : starEach (e :: es) X.env = (false, eval e X.env) :: starEach es X.env := by rfl) (hpl : (backTo pos (starEach es X.env)).any (·.1) = false := by rfl) :
    PE X (.Call (.Name x p) (e :: es) [] pos) (tCallS sp (fun _ => E) t) := by
  obtain ⟨f, fd, ps, F, hm, kp, b⟩ := c.ex
  exact pe_callS F (hr.mono hk) hg hm kp b tk ha hdb he hpl
end
/-- the texts read so far, in a new list at D -/
structure TextsAt (H : Hp) (G : Hp) (D : Addr) (rows : List Bytes) (i : Nat) : Prop where
  same : Same H G
  ex : ∃ (ts : List Text) (rs : List Addr), G D = some (.lst (rs.map V.ref)) ∧ AllAt (fun r t => r ≠ D ∧ LnAt G r t) rs ts ∧ (rows.take i).map readText = ts.map some
theorem TextsAt.more {H G G2 : Hp} {D R2 : Addr} {rows : List Bytes} {i : Nat} {b : Bytes} {t : Text} (k : TextsAt H G D rows i) (hD : H D = none) (hb : rows[i]? = some b) (et : readText b = some t) (e : Same G G2) (n : G R2 = none) (l : LnAt G2 R2 t) (sz : rows.length ≤ 1000) :
    ∃ acc, G2 D = some (.lst acc) ∧ acc.length < sizeLine ∧ TextsAt H (upd G2 D (.lst (acc ++ [.ref R2]))) D rows (i + 1) := by
  obtain ⟨ts, rs, h1, h2, h3⟩ := k.ex
  have ne : R2 ≠ D := fun z => by rw [z, h1] at n; cases n
  have z := congrArg List.length h3
  rw [List.length_map, List.length_map, List.length_take] at z
  have len := h2.len
  have old : AllAt (fun r t => r ≠ D ∧ LnAt (upd G2 D (.lst (rs.map V.ref ++ [.ref R2]))) r t) rs ts := h2.mono fun r x _ _ q => ⟨q.1, by
    show upd G2 D _ r = _
    rw [upd_ne q.1]
    exact e _ _ q.2⟩
  have new : LnAt (upd G2 D (.lst (rs.map V.ref ++ [.ref R2]))) R2 t := by
    show upd G2 D _ R2 = _
    rw [upd_ne ne]
    exact l
  refine ⟨_, e _ _ h1, by rw [List.length_map]; exact sz_lt (by omega), same_upd (same_trans k.same e) hD, ts ++ [t], rs ++ [R2], ?_, old.snoc ⟨ne, new⟩, ?_⟩
  · rw [upd_same, List.map_append]
    rfl
  · rw [take_more hb, List.map_append, List.map_append, h3]
    show _ ++ [readText b] = _
    rw [et]
    rfl
theorem texts_go {A : Ad} {K : PySem.W.Frag} {H : Hp} {R : Addr} {rows : List Bytes} {E : XK} {σ : L2.St} {m : Nat} {Q : VK} (hr : RowsAt H R rows) (hl : rows.length ≤ 1000) (h1 : σ[1]? = some (some (.ref R))) (hm : m < σ.length)
    (no : ∀ (i : Nat) (x : Bytes), rows[i]? = some x → readText x = none → Out E H A.nt [("number", .int (-4))]) (ok : ∀ G D, H D = none → TextsAt H G D rows rows.length → Q (.ref D) G) :
    tLc (iList K (tVar 1)) (gName m) tYes (tCallS (spLinesOf A) (fun _ => E) (tCons (tVar m) tNil)) [m] σ H Q := by
  obtain ⟨rs, g1, g2⟩ := hr
  have rl : (rs.map V.ref).length = rows.length := by rw [List.length_map, g2.len]
  refine ⟨_, h1, R, rfl, ⟨_, SqL.of g1⟩, fun D hD => ?_⟩
  refine lc_list (K := K) (a := R) (xs := rs.map V.ref) (fun i G => TextsAt H G D rows i) ⟨same_new hD, [], [], upd_same, .nil, rfl⟩ (fun i G _ k => SqL.of (k.same _ _ g1)) (fun i x G hx k => ?_) (fun G k => ok G D hD (rl ▸ k))
  obtain ⟨r, hr, rfl⟩ := map_get hx
  obtain ⟨b, hb, hrb⟩ := g2.get hr
  refine ⟨by simp [wipe], ?_⟩
  refine ⟨.ref r, ?_, r, b, rfl, k.same _ _ hrb, fun t et G2 D2 e n l => k.more hD hb et e n l hl, fun en => (no i b hb en).mono k.same⟩
  rw [List.getElem?_set_self (by rw [wipe_length]; exact hm)]
/-- three texts -/
theorem TextsAt.three {H G : Hp} {D : Addr} {a b c : Bytes} (k : TextsAt H G D [a, b, c] 3) : ∃ (t u v : Text) (r1 r2 r3 : Addr), readText a = some t ∧ readText b = some u ∧ readText c = some v ∧ G D = some (.lst [.ref r1, .ref r2, .ref r3]) ∧ LnAt G r1 t ∧ LnAt G r2 u ∧ LnAt G r3 v := by
  obtain ⟨ts, rs, h1, h2, h3⟩ := k.ex
  have h3 : [readText a, readText b, readText c] = ts.map some := h3
  have hn : 3 = ts.length := by simpa using congrArg List.length h3
  rcases ts with _ | ⟨t, _ | ⟨u, _ | ⟨v, _ | ⟨z, ts⟩⟩⟩⟩ <;> try (simp at hn; done)
  injection h3 with e1 h3
  injection h3 with e2 h3
  injection h3 with e3 h3
  obtain ⟨r1, g1, l1⟩ := h2.get' (i := 0) rfl
  obtain ⟨r2, g2, l2⟩ := h2.get' (i := 1) rfl
  obtain ⟨r3, g3, l3⟩ := h2.get' (i := 2) rfl
  have l := h2.len
  rcases rs with _ | ⟨x, _ | ⟨y, _ | ⟨z, _ | ⟨z', rs⟩⟩⟩⟩ <;> try cases l
  cases g1; cases g2; cases g3
  exact ⟨t, u, v, r1, r2, r3, e1, e2, e3, h1, l1.2, l2.2, l3.2⟩
theorem after_len : ∀ (f : Nat) (p q : Patch), (Vasedc.after_ f p q).length ≤ p.length + q.length
  | 0, _, _ => Nat.zero_le _
  | f + 1, [], [] => Nat.zero_le _
  | f + 1, [], .keep _ :: _ => Nat.zero_le _
  | f + 1, [], .drop _ :: _ => Nat.zero_le _
  | f + 1, [], .put y :: s => by
    have := after_len f [] s
    show (Vasedc.Op.put y :: Vasedc.after_ f [] s).length ≤ _
    simp only [List.length_cons, List.length_nil] at *
    omega
  | f + 1, .drop x :: r, q => by
    have := after_len f r q
    show (Vasedc.Op.drop x :: Vasedc.after_ f r q).length ≤ _
    simp only [List.length_cons] at *
    omega
  | f + 1, .keep x :: r, [] => Nat.zero_le _
  | f + 1, .put x :: r, [] => Nat.zero_le _
  | f + 1, .keep x :: r, .put y :: s => by
    have := after_len f (.keep x :: r) s
    show (Vasedc.Op.put y :: Vasedc.after_ f (.keep x :: r) s).length ≤ _
    simp only [List.length_cons] at *
    omega
  | f + 1, .put x :: r, .put y :: s => by
    have := after_len f (.put x :: r) s
    show (Vasedc.Op.put y :: Vasedc.after_ f (.put x :: r) s).length ≤ _
    simp only [List.length_cons] at *
    omega
  | f + 1, .keep x :: r, .keep y :: s => by
    have := after_len f r s
    show (Vasedc.Op.keep x :: Vasedc.after_ f r s).length ≤ _
    simp only [List.length_cons] at *
    omega
  | f + 1, .keep x :: r, .drop y :: s => by
    have := after_len f r s
    show (Vasedc.Op.drop x :: Vasedc.after_ f r s).length ≤ _
    simp only [List.length_cons] at *
    omega
  | f + 1, .put x :: r, .keep y :: s => by
    have := after_len f r s
    show (Vasedc.Op.put x :: Vasedc.after_ f r s).length ≤ _
    simp only [List.length_cons] at *
    omega
  | f + 1, .put x :: r, .drop y :: s => by
    have := after_len f r s
    show (Vasedc.after_ f r s).length ≤ _
    simp only [List.length_cons] at *
    omega
theorem Vasedc_both_len (p q : Patch) : (Vasedc.both p q).length ≤ p.length + q.length := after_len _ p q
section
variable {P : Program} {w : World} {K : PySem.W.Frag} {mg : Str → Option Value} {base : Heap} {A : Ad}
abbrev N_call_both : List Str := ["holder", "rows", "texts", "first", "second", "past_both", "row", "marks"]
theorem sc_call_both : FnScope N_call_both ["holder", "rows"] (defScope (top 118)) := ⟨rfl, rfl, rfl, by decide +kernel, rfl, by decide +kernel, by decide +kernel⟩
theorem k_call_both (T : Txt K mg A) : Ok P w K mg base 9 "call_both" (spCall A 6) := by
  refine ok_mk T.d_call_both sc_call_both (fun vs H Q E ⟨_, _, _, _, _, _, e, _⟩ => by rw [e]; rfl) fun f cdv AA outer s H vs Q E hr tk po h => ⟨_, (pss_cons (ps_setLcR (E := E) (i := 2) (own := [("row", 6)]) (g := gName 6) rfl rfl rfl tk sc_call_both.nd rfl rfl (sw_true rfl rfl rfl (by decide +kernel)) (pi_list (pv 1)) (blkOk_by (own := [("row", 6)]) (N := N_call_both) (sc := defScope (top 118)) (by decide +kernel)) (fun _ _ _ _ _ => pg_name (i := 6) sc_call_both.nd rfl (Or.inl rfl)) (fun _ _ _ _ _ _ _ pass => (pe_kp (k_lines_of T) hr pass (pa_cons (pv 6) pa_nil))))
    (pss_cons (ps_set (i := 3) sc_call_both.nd rfl (Or.inl rfl) (pe_k (k_least_patch T) hr tk (pa_cons (pe_ix ix_list (pv 2) pe_int (fun _ _ => rfl)) (pa_cons (pe_ix ix_list (pv 2) pe_int (fun _ _ => rfl)) pa_nil))))
    (pss_cons (ps_set (i := 4) sc_call_both.nd rfl (Or.inl rfl) (pe_k (k_least_patch T) hr tk (pa_cons (pe_ix ix_list (pv 2) pe_int (fun _ _ => rfl)) (pa_cons (pe_ix ix_list (pv 2) pe_int (fun _ _ => rfl)) pa_nil))))
    (pss_cons (ps_set (i := 5) sc_call_both.nd rfl (Or.inl rfl) (pe_k (k_least_patch T) hr tk (pa_cons (pe_ix ix_list (pv 2) pe_int (fun _ _ => rfl)) (pa_cons (pe_ix ix_list (pv 2) pe_int (fun _ _ => rfl)) pa_nil))))
    (pss_one (ps_ret (pe_lc (own := [("marks", 7)]) (g := gName 7) rfl sc_call_both.nd (pi_tup (pe_tup (pa_cons (pe_k (k_one_behind_other T) hr tk (pa_cons (pv 3) (pa_cons (pv 4) pa_nil))) (pa_cons (pv 3) (pa_cons (pv 4) (pa_cons (pv 5) pa_nil)))))) (blkOk_by (own := [("marks", 7)]) (N := N_call_both) (sc := defScope (top 118)) (by decide +kernel)) (fun _ _ _ _ _ => pg_name (i := 7) sc_call_both.nd rfl (Or.inl rfl)) (fun _ _ _ _ _ => pts_nil) (fun _ _ _ _ _ => (pe_k (k_cost_of T) hr takes0 (pa_cons (pv 7) pa_nil)))))))))), ?_⟩
  obtain ⟨hd, R, pt, o, rows, c, rfl, ec, ho, rw_, tab, q, q2⟩ := h
  rcases rows with _ | ⟨a, _ | ⟨b, _ | ⟨x, _ | ⟨z, rows⟩⟩⟩⟩ <;> try cases ec
  obtain ⟨ok, no⟩ := calm_wish (an := with3 a b x fun t u v => ⟨(costOf (Vasedc.both (patch t u) (patch u v)) : Int), nats [costOf (patch t u), costOf (patch u v), costOf (patch t v)]⟩) rfl ho tab q q2
  dsimp only [tSeq, tAsg]
  refine texts_go (A := A) (K := K) (m := 6) rw_ (show 3 ≤ 1000 by decide) rfl (by show 6 < 8; decide) (fun i y hy en => no (-4) _ (read3n hy en) (by simp)) fun G D hD k => ?_
  obtain ⟨t, u, v, r1, r2, r3, et, eu, ev, hL, l1, l2, l3⟩ := k.three
  have kt := readText_ok et
  have ku := readText_ok eu
  have kv := readText_ok ev
  have := kt.len
  have := ku.len
  have := kv.len
  refine ⟨_, rfl, D, _, 0, _, rfl, rfl, SqL.of hL, atI0, _, rfl, D, _, 1, _, rfl, rfl, SqL.of hL, atI1, r1, r2, t, u, rfl, l1, l2, by omega, by omega, fun H1 M1 e1 n1 m1 => ?_⟩
  refine ⟨_, rfl, D, _, 1, _, rfl, rfl, SqL.of (e1 _ _ hL), atI1, _, rfl, D, _, 2, _, rfl, rfl, SqL.of (e1 _ _ hL), atI2, r2, r3, u, v, rfl, e1 _ _ l2, e1 _ _ l3, by omega, by omega, fun H2 M2 e2 n2 m2 => ?_⟩
  have e12 := same_trans e1 e2
  refine ⟨_, rfl, D, _, 0, _, rfl, rfl, SqL.of (e12 _ _ hL), atI0, _, rfl, D, _, 2, _, rfl, rfl, SqL.of (e12 _ _ hL), atI2, r1, r3, t, v, rfl, e12 _ _ l1, e12 _ _ l3, by omega, by omega, fun H3 M3 e3 n3 m3 => ?_⟩
  obtain ⟨x1, x2, x3⟩ := patch_sides t u
  obtain ⟨y1, y2, y3⟩ := patch_sides u v
  obtain ⟨z1, z2, z3⟩ := patch_sides t v
  have m1' := m1.same (same_trans e2 e3)
  have m2' := m2.same e3
  refine ⟨_, rfl, _, rfl, M1, M2, patch t u, patch u v, rfl, m1', m2', by rw [x2, y1], by omega, by omega, fun H4 M4 e4 n4 m4 => ?_⟩
  refine ⟨_, rfl, _, rfl, _, rfl, sz_of (n := 4) (by decide), fun tp htp => ⟨tp, rfl, ⟨_, SqT.of upd_same⟩, fun F hF => ?_⟩⟩
  generalize hH5 : upd H4 tp (.tup [.ref M4, .ref M1, .ref M2, .ref M3]) = H5 at hF
  have e5 : Same H4 H5 := hH5 ▸ same_new htp
  have htt : H5 tp = some (.tup [.ref M4, .ref M1, .ref M2, .ref M3]) := by rw [← hH5, upd_same]
  have l4 := Vasedc_both_len (patch t u) (patch u v)
  have ms : AllAt (fun (r : Addr) (p : Patch) => MarksAt H5 r p) [M4, M1, M2, M3] [Vasedc.both (patch t u) (patch u v), patch t u, patch u v, patch t v] :=
    ((((AllAt.nil).snoc (m4.same e5)).snoc ((m1'.same e4).same e5)).snoc ((m2'.same e4).same e5)).snoc ((m3.same e4).same e5)
  have sm : ∀ p ∈ [Vasedc.both (patch t u) (patch u v), patch t u, patch u v, patch t v], p.length ≤ 100000 := by
    intro p hp
    simp only [List.mem_cons, List.not_mem_nil, or_false] at hp
    rcases hp with rfl | rfl | rfl | rfl <;> omega
  generalize hps : [Vasedc.both (patch t u) (patch u v), patch t u, patch u v, patch t v] = ps at ms sm
  have e05 := same_trans (same_trans (same_trans (same_trans k.same e12) e3) e4) e5
  have hr4 : ([.ref M4, .ref M1, .ref M2, .ref M3] : List V) = [M4, M1, M2, M3].map V.ref := rfl
  rw [hr4] at htt
  have pl : ps.length = 4 := by rw [← hps]; rfl
  refine lc_tup (K := K) (a := tp) (xs := [M4, M1, M2, M3].map V.ref) (fun i G => Same H5 G ∧ G F = some (.lst ((ps.take i).map fun p => V.int (costOf p)))) ⟨same_new hF, upd_same⟩ (fun i G _ k => SqT.of (k.1 _ _ htt)) (fun i x G hx k => ?_) (fun G k => ?_)
  · obtain ⟨r, hr, rfl⟩ := map_get hx
    obtain ⟨p, hp, hm⟩ := ms.get hr
    refine ⟨rfl, ?_⟩
    refine ⟨_, rfl, r, p, rfl, hm.same k.1, sm p (List.mem_of_getElem? hp), fun G2 e => ⟨_, e _ _ k.2, ?_, same_upd (same_trans k.1 e) hF, ?_⟩⟩
    · rw [List.length_map, List.length_take]
      exact sz_lt (by omega)
    · rw [upd_same, take_more hp, List.map_append]
      rfl
  · obtain ⟨k1, k2⟩ := k
    have k2 : G F = some (.lst ((ps.take 4).map fun p => V.int (costOf p))) := k2
    rw [← pl, List.take_length, ← hps] at k2
    exact ok ((costOf (Vasedc.both (patch t u) (patch u v)) : Int) :: nats [costOf (patch t u), costOf (patch u v), costOf (patch t v)]) (by rw [read3 et eu ev]; rfl) G F (same_trans e05 k1) (none_back e05 hF) k2
end
end Lp
set_option maxRecDepth 100000
set_option maxHeartbeats 4000000
namespace Lp
open PySem PySem.Spec PyProof.Rows L2
open VasedBase (Bytes word textRow one Answer faulty)
open Vaseda (Line Text Cmd Script showCmd readText)
open Vasedc (Patch patch scriptOf turned Hunk hunks lineIn looked with1 with2 with3 patchAnswer scriptAnswer drift driftBy costOf rowText nats)
open VasedcNeutral (encode)
section
variable {P : Program} {w : World} {K : PySem.W.Frag} {mg : Str → Option Value} {base : Heap} {A : Ad}
abbrev N_call_load : List Str := ["holder", "rows", "commands", "fault"]
theorem sc_call_load : FnScope N_call_load ["holder", "rows"] (defScope (top 112)) := ⟨rfl, rfl, rfl, by decide +kernel, rfl, by decide +kernel, by decide +kernel⟩
theorem k_call_load (T : Txt K mg A) : Ok P w K mg base 9 "call_load" (spCall A 0) := by
  refine ok_mk T.d_call_load sc_call_load (fun vs H Q E ⟨_, _, _, _, _, _, e, _⟩ => by rw [e]; rfl) fun f cdv AA outer s H vs Q E hr tk po h => ⟨_, (pss_cons (ps_try_as (i := 3) (tb := fun W => tAsg (tCallS (spCommandsOf A) (WE W) (tCons (tOp (rIxL K) (tVar 1) (tC (.int 0))) tNil)) (gName 2))
      (ts := fun a cls d => tRet (tLst (tCons (tC (.int 0)) (tCons (tExF K a cls d "code" (tVar 3)) (tCons (tExF K a cls d "place" (tVar 3)) tNil))))) (Wout := fun cls d _ H => E cls d H) rfl rfl sc_call_load.nd rfl rfl ⟨rfl, by decide, Or.inl T.x_Fault.gC⟩ tk
      (fun W pn xe tk _ => pss_one (ps_set (i := 2) sc_call_load.nd rfl (Or.inl rfl) (pe_k (k_commands_of T) hr tk (pa_cons (pe_ix ix_list (pv 1) pe_int (fun _ _ => rfl)) pa_nil))))
      (fun a oe cls d pn hz hf => pss_one (ps_ret (pe_lst (pa_cons pe_int (pa_cons (pe_exF hz hf (pv 3)) (pa_cons (pe_exF hz hf (pv 3)) pa_nil)))))))
    (pss_cons (ps_fld (pv 0) (pv 2) rfl)
    (pss_one (ps_ret (pe_lst (pa_cons pe_int (pa_cons (pe_len T.b_len (pv 2)) pa_nil))))))), ?_⟩
  obtain ⟨hd, R, pt, o, rows, c, rfl, ec, ho, rw_, tab, q, q2⟩ := h
  rcases rows with _ | ⟨b, _ | ⟨z, rows⟩⟩ <;> try cases ec
  obtain ⟨r0, h0, h1⟩ := rw_.one
  obtain ⟨dx, v, g1, g2, g3⟩ := ho.ex
  obtain ⟨xs0, hx0⟩ := ho.apart
  refine ⟨_, rfl, R, _, 0, _, rfl, rfl, SqL.of h0, atI0, r0, b, rfl, h1, fun sc es sl H1 S e1 n1 sa => ?_, fun fl ef H1 d e1 hd1 => ?_⟩
  · have so : Vasedc.step o (.load b) = (some sc, ⟨1, nats [sc.length]⟩) := by
      show (match Vaseda.read b with
        | .ok s => (some s, (⟨1, Vaseda.nats [s.length]⟩ : Answer))
        | .error f => (o, faulty f)) = _
      rw [es]
      rfl
    rw [so] at q
    obtain ⟨_, ok2⟩ := read_r es
    have k1 := e1 _ _ g1
    have hne : hd ≠ S := fun z => by rw [z] at g1; rw [g1] at n1; cases n1
    refine ⟨_, rfl, _, rfl, hd, A.ho, dx, _, rfl, k1, T.q_Holder.cl, T.q_Holder.no _ (by decide), (show 1 < 1000 by decide), ?_⟩
    generalize hH2 : upd H1 hd (.ins A.ho dx (putF "commands" (.ref S) [("commands", v)])) = H2
    have k2 : H2 hd = some (.ins A.ho dx [("commands", .ref S)]) := by rw [← hH2, upd_same]; rfl
    have sa2 : ScriptAt A H2 S sc := sa.over fun b u hb _ n => by
      rw [← hH2, upd_ne (fun z => by rw [z, k1] at hb; cases hb; exact n _ _ rfl)]
      exact hb
    have f2 : Fr hd H H2 := fun b u nb hb _ => by
      rw [← hH2, upd_ne nb]
      exact e1 _ _ hb
    have t2 : LamX.TabS H2 A.tb qN := by
      obtain ⟨ps, p1, p2, p3⟩ := tab
      refine ⟨ps, ?_, p2, fun pos cv hc => ?_⟩
      · rw [← hH2, upd_ne (fun z => by rw [z, g1] at p1; cases p1)]
        exact e1 _ _ p1
      · obtain ⟨c, e, hcc⟩ := p3 pos cv hc
        refine ⟨c, e, ?_⟩
        rw [← hH2, upd_ne (fun z => by rw [z, g1] at hcc; cases hcc)]
        exact e1 _ _ hcc
    obtain ⟨cs, s1, s2⟩ := id sa2
    have sz : (cs.map V.ref).length = sc.length := by rw [List.length_map, s2.len]
    refine ⟨_, rfl, S, _, rfl, SqL.of s1, sz2, fun D hD => ?_⟩
    rw [sz]
    refine q _ D (f2.trans (Fr.of (same_new hD))) (tab_same t2 (same_new hD)) ⟨⟨xs0, same_new hD _ _ (f2 _ _ (fun z => by rw [z, g1] at hx0; cases hx0) hx0 fun _ z => nomatch z)⟩, dx, .ref S, same_new hD _ _ k2, (fun z => nomatch z), fun s hs => ?_⟩ (fun xs z => ?_) upd_same
    · cases hs
      exact ⟨S, rfl, (fun z => by rw [z, hx0] at n1; cases n1), sa2.same (same_new hD), sl, ok2⟩
    · have := f2 D _ (fun z' => by rw [z', g1] at z; cases z) z (fun _ z => nomatch z)
      rw [hD] at this
      cases this
  · have so : Vasedc.step o (.load b) = (o, faulty fl) := by
      show (match Vaseda.read b with
        | .ok s => (some s, (⟨1, Vaseda.nats [s.length]⟩ : Answer))
        | .error f => (o, faulty f)) = _
      rw [ef]
    rw [so] at q
    refine ⟨true, T.e_fa, fun _ a na => ?_, fun k => nomatch k⟩
    refine ⟨_, rfl, rfl, A.fa, rfl, T.x_Fault.xf, T.x_Fault.no _ (by decide), d, _, _, rfl, hd1, rfl, ?_⟩
    refine ⟨_, rfl, rfl, A.fa, rfl, T.x_Fault.xf, T.x_Fault.no _ (by decide), d, _, _, rfl, hd1, rfl, ?_⟩
    refine ⟨sz3, fun D hD => ?_⟩
    have e2 := same_trans e1 (same_new (o := .lst [.int 0, .int (fl.code : Int), .int (fl.place : Int)]) hD)
    exact q _ D (Fr.of e2) (tab_same tab e2) (ho.same e2) (NewD.of (none_back e1 hD)) upd_same
abbrev N_call_drift : List Str := ["holder", "rows", "texts", "changes", "made", "not_put", "row"]
theorem sc_call_drift : FnScope N_call_drift ["holder", "rows"] (defScope (top 117)) := ⟨rfl, rfl, rfl, by decide +kernel, rfl, by decide +kernel, by decide +kernel⟩
theorem k_call_drift (T : Txt K mg A) (TB : LamX.TabB base mg A.tc A.tb) : Ok P w K mg base 9 "call_drift" (spCall A 5) := by
  refine ok_mk T.d_call_drift sc_call_drift (fun vs H Q E ⟨_, _, _, _, _, _, e, _⟩ => by rw [e]; rfl) fun f cdv AA outer s H vs Q E hr tk po h => ⟨_, (pss_cons (ps_setLcR (E := E) (i := 2) (own := [("row", 6)]) (g := gName 6) rfl rfl rfl tk sc_call_drift.nd rfl rfl (sw_true rfl rfl rfl (by decide +kernel)) (pi_list (pv 1)) (blkOk_by (own := [("row", 6)]) (N := N_call_drift) (sc := defScope (top 117)) (by decide +kernel)) (fun _ _ _ _ _ => pg_name (i := 6) sc_call_drift.nd rfl (Or.inl rfl)) (fun _ _ _ _ _ _ _ pass => (pe_kp (k_lines_of T) hr pass (pa_cons (pv 6) pa_nil))))
    (pss_cons (ps_set (i := 3) sc_call_drift.nd rfl (Or.inl rfl) (pe_k (k_changes_of T) hr tk (pa_cons (pe_k (k_least_patch T) hr tk (pa_cons (pe_ix ix_list (pv 2) pe_int (fun _ _ => rfl)) (pa_cons (pe_ix ix_list (pv 2) pe_int (fun _ _ => rfl)) pa_nil))) pa_nil)))
    (pss_cons (ps_try_as (i := 5) (tb := fun W => tAsg (tCallS (spPut A) (WE W) (tCons (tVar 3) (tCons (tOp (rIxL K) (tVar 2) (tC (.int 2))) tNil))) (gName 4))
      (ts := fun a cls d => tRet (tLst (tCons (tC (.int 0)) (tCons (tExF K a cls d "number" (tVar 5)) tNil)))) (Wout := fun cls d _ H => E cls d H) rfl rfl sc_call_drift.nd rfl rfl ⟨rfl, by decide, Or.inl T.x_ChangeNotPut.gC⟩ tk
      (fun W pn xe tk _ => pss_one (ps_set (i := 4) sc_call_drift.nd rfl (Or.inl rfl) (pe_k (k_put_to T TB) hr tk (pa_cons (pv 3) (pa_cons (pe_ix ix_list (pv 2) pe_int (fun _ _ => rfl)) pa_nil)))))
      (fun a oe cls d pn hz hf => pss_one (ps_ret (pe_lst (pa_cons pe_int (pa_cons (pe_exF hz hf (pv 5)) pa_nil))))))
    (pss_one (ps_ret (pe_op op_cat (pe_lst (pa_cons pe_int pa_nil)) (pe_k (k_told_text T) hr tk (pa_cons (pv 4) pa_nil)))))))), ?_⟩
  obtain ⟨hd, R, pt, o, rows, c, rfl, ec, ho, rw_, tab, q, q2⟩ := h
  rcases rows with _ | ⟨a, _ | ⟨b, _ | ⟨x, _ | ⟨z, rows⟩⟩⟩⟩ <;> try cases ec
  obtain ⟨ok, no⟩ := calm_wish (an := with3 a b x fun t u v => (match drift (patch t u) v with
    | .ok w => ⟨1, (w.length : Int) :: rowText w⟩
    | .error k => ⟨0, nats [k]⟩)) rfl ho tab q q2
  dsimp only [tSeq, tAsg]
  refine texts_go (A := A) (K := K) (m := 6) rw_ (show 3 ≤ 1000 by decide) rfl (by show 6 < 7; decide) (fun i y hy en => no (-4) _ (read3n hy en) (by simp)) fun G D hD k => ?_
  obtain ⟨t, u, v, r1, r2, r3, et, eu, ev, hL, l1, l2, l3⟩ := k.three
  have kt := readText_ok et
  have ku := readText_ok eu
  have kv := readText_ok ev
  have := kt.len
  have := ku.len
  have := kv.len
  obtain ⟨p1, p2⟩ := ok_patch et eu
  have as : (Vasedc.step o (.drift a b x)).2 = (match drift (patch t u) v with
    | .ok w => ⟨1, (w.length : Int) :: rowText w⟩
    | .error k => ⟨0, nats [k]⟩) := read3 et eu ev
  have so : (Vasedc.step o (.drift a b x)).1 = o := rfl
  rw [so, as] at q
  refine ⟨_, rfl, D, _, 0, _, rfl, rfl, SqL.of hL, atI0, _, rfl, D, _, 1, _, rfl, rfl, SqL.of hL, atI1, r1, r2, t, u, rfl, l1, l2, by omega, by omega, fun H1 M1 e1 n1 m1 => ?_⟩
  refine ⟨M1, _, rfl, m1, by omega, fun H2 C2 e2 n2 hc => ?_⟩
  have e12 := same_trans e1 e2
  have eH := same_trans k.same e12
  have hl := (hunks_at (patch t u)).1
  have hs := hunks_small (patch t u)
  refine ⟨_, rfl, _, rfl, D, _, 2, _, rfl, rfl, SqL.of (e12 _ _ hL), atI2, ?_⟩
  refine ⟨C2, r3, hunks (patch t u), v, rfl, hc, e12 _ _ l3, fun h hh => ?_, by omega, by omega, fun h hh => ?_, tab_same tab eH, fun wv ew H3 L3 e3 t3 l3' => ?_, fun kk ek H3 d e3 t3 hd3 => ?_⟩
  · have z := hs h hh
    exact ⟨Nat.le_trans z.a (by omega), Nat.le_trans z.o (by omega), Nat.le_trans z.n (by omega), Nat.le_trans z.r (by omega)⟩
  · have := (hunks_at (patch t u)).2 h hh
    omega
  · have ew' : drift (patch t u) v = .ok wv := ew
    rw [ew'] at q
    obtain ⟨w1, w2⟩ := drift_ok p2 kv.long ew'
    have eN : LamX.ExtN H H3 := fun b u hb n => e3 b u (eH b u hb) n
    refine ⟨Nat.succ_le_of_lt (by decide), fun L hL' => ?_⟩
    have e4 := same_new (o := .lst [.int 1]) hL'
    refine ⟨_, rfl, L3, wv, rfl, e4 _ _ l3', by omega, fun y hy => Nat.le_trans (w2 y hy) (by decide), fun H5 M5 e5 n5 h5 => ?_⟩
    refine ⟨L, M5, _, _, rfl, rfl, e5 _ _ upd_same, h5, ?_, fun D' hD' => ?_⟩
    · have flat : (rowText wv).length ≤ 1 + 17 * 72 := by
        have z := flat_le (wv.map (· ++ [10])) 17 fun y hy => by
          obtain ⟨y', hy', rfl⟩ := List.mem_map.mp hy
          have := w2 y' hy'
          rw [List.length_append]
          show y'.length + 1 ≤ 17
          omega
        rw [List.length_map] at z
        show ((Vaseda.showText wv).map (fun c => (c.toNat : Int))).length + 1 ≤ 1 + 17 * 72
        rw [List.length_map]
        have z' : (Vaseda.showText wv).length ≤ wv.length * 17 := z
        clear z
        have : wv.length * 17 ≤ 72 * 17 := Nat.mul_le_mul_right _ (by omega)
        omega
      rw [List.length_map]
      show 1 + ((rowText wv).length + 1) ≤ _
      exact sz_of (by omega)
    · have e6 := same_trans (same_trans e4 e5) (same_new (o := .lst ([.int 1] ++ ((wv.length : Int) :: rowText wv).map V.int)) hD')
      have eF : LamX.ExtN H (upd H5 D' (.lst ([.int 1] ++ ((wv.length : Int) :: rowText wv).map V.int))) := fun b u hb n => e6 _ _ (eN b u hb n)
      refine q _ D' (Fr.ofN eF) (tab_same t3 e6) (ho.ext eF) (fun xs z => ?_) upd_same
      have := same_trans e4 e5 _ _ (eN D' _ z fun _ z => nomatch z)
      rw [hD'] at this
      cases this
  · have ek' : drift (patch t u) v = .error kk := ek
    rw [ek'] at q
    have eN : LamX.ExtN H H3 := fun b u hb n => e3 b u (eH b u hb) n
    refine ⟨true, T.e_np, fun _ a na => ?_, fun k => nomatch k⟩
    refine ⟨_, rfl, rfl, A.np, rfl, T.x_ChangeNotPut.xf, T.x_ChangeNotPut.no _ (by decide), d, _, _, rfl, hd3, rfl, ?_⟩
    refine ⟨sz2, fun D' hD' => ?_⟩
    have e6 := same_new (o := .lst [.int 0, .int (kk : Int)]) hD'
    have eF : LamX.ExtN H (upd H3 D' (.lst [.int 0, .int (kk : Int)])) := fun b u hb n => e6 _ _ (eN b u hb n)
    refine q _ D' (Fr.ofN eF) (tab_same t3 e6) (ho.ext eF) (fun xs z => ?_) upd_same
    have := eN D' _ z fun _ z => nomatch z
    rw [hD'] at this
    cases this
end
end Lp
set_option maxRecDepth 100000
set_option maxHeartbeats 2000000
/-! The calls read off one list of numbers. -/
namespace Lp
open VasedBase (Bytes)
open VasedcNeutral (encode asked1 callOf bytesOf natural)
def intsOf (b : Bytes) : List Int := b.map fun c => (c.toNat : Int)
theorem intsOf_V (b : Bytes) : (intsOf b).map L2.V.int = b.map iB := by
  unfold intsOf
  rw [List.map_map]
  rfl
theorem ints_back {x : List Int} (h : ∀ z ∈ x, 0 ≤ z ∧ z ≤ 255) : intsOf (bytesOf x) = x := by
  unfold intsOf bytesOf
  rw [List.map_map]
  refine (List.map_congr_left fun z hz => ?_).trans (List.map_id x)
  obtain ⟨h0, h1⟩ := h z hz
  show ((UInt8.ofNat z.toNat).toNat : Int) = z
  rw [UInt8.toNat_ofNat']
  omega
def rowsLen (xs : List (List Int)) : Nat := (xs.map fun x => 1 + x.length).sum
theorem row_more {k : Nat} {r t : List Int} {xs : List (List Int)} (h : PyFlat.rows (k + 1) r = some (xs, t)) : ∃ z r' ys, r = z :: r' ∧ 0 ≤ z ∧ z.toNat ≤ r'.length ∧ xs = r'.take z.toNat :: ys ∧ PyFlat.rows k (r'.drop z.toNat) = some (ys, t) := by
  unfold PyFlat.rows at h
  cases r with
  | nil => cases h
  | cons z r' =>
    unfold PyFlat.row at h
    dsimp only at h
    by_cases c : 0 ≤ z ∧ z.toNat ≤ r'.length
    · rw [if_pos c] at h
      dsimp only at h
      cases e : PyFlat.rows k (r'.drop z.toNat) with
      | none => rw [e] at h; cases h
      | some q =>
        obtain ⟨ys, t'⟩ := q
        rw [e] at h
        cases h
        exact ⟨z, r', ys, rfl, c.1, c.2, rfl, e⟩
    · rw [if_neg c] at h
      cases h
theorem rows_rest : ∀ {k : Nat} {r t : List Int} {xs : List (List Int)}, PyFlat.rows k r = some (xs, t) → xs.length = k ∧ t = r.drop (rowsLen xs) ∧ rowsLen xs ≤ r.length
  | 0, r, t, xs, h => by
    cases h
    exact ⟨rfl, rfl, Nat.zero_le _⟩
  | k + 1, r, t, xs, h => by
    obtain ⟨z, r', ys, e, z0, zl, ex, h'⟩ := row_more h
    obtain ⟨h1, h2, h3⟩ := rows_rest h'
    subst e ex
    have l : (r'.take z.toNat).length = z.toNat := by rw [List.length_take]; omega
    have s : rowsLen (r'.take z.toNat :: ys) = 1 + z.toNat + rowsLen ys := by
      show (1 + (r'.take z.toNat).length) + rowsLen ys = _
      rw [l]
    refine ⟨by rw [List.length_cons, h1], ?_, ?_⟩
    · rw [s, h2, List.drop_drop, show 1 + z.toNat + rowsLen ys = (z.toNat + rowsLen ys) + 1 by omega, List.drop_succ_cons]
    · rw [s, List.length_cons]
      rw [List.length_drop] at h3
      omega
def arity : Nat → Nat
  | 0 => 1
  | 1 => 2
  | 2 => 1
  | 3 => 2
  | 4 => 1
  | 5 => 3
  | 6 => 3
  | 7 => 2
  | _ => 0
theorem shape_is {p : Int} {n k : Nat} (h : PyVasedc.shape p = some (n, k)) : n = 0 ∧ ∃ i : Nat, i < 8 ∧ p = (i : Int) ∧ arity i = k := by
  unfold PyVasedc.shape at h
  split at h
  · cases h; exact ⟨rfl, 0, by decide, by assumption, rfl⟩
  split at h
  · cases h; exact ⟨rfl, 1, by decide, by assumption, rfl⟩
  split at h
  · cases h; exact ⟨rfl, 2, by decide, by assumption, rfl⟩
  split at h
  · cases h; exact ⟨rfl, 3, by decide, by assumption, rfl⟩
  split at h
  · cases h; exact ⟨rfl, 4, by decide, by assumption, rfl⟩
  split at h
  · cases h; exact ⟨rfl, 5, by decide, by assumption, rfl⟩
  split at h
  · cases h; exact ⟨rfl, 6, by decide, by assumption, rfl⟩
  split at h
  · cases h; exact ⟨rfl, 7, by decide, by assumption, rfl⟩
  cases h
theorem calls_more {f : Nat} {r : List Int} {raw : List (List (List Int))} (h : PyFlat.calls PyVasedc.shape f r = some raw) : (r = [] ∧ raw = []) ∨
    ∃ (f' i : Nat) (r' t : List Int) (xs : List (List Int)) (cs : List (List (List Int))), i < 8 ∧ r = (i : Int) :: r' ∧ PyFlat.rows (arity i) r' = some (xs, t) ∧ raw = ([(i : Int)] :: xs) :: cs ∧ PyFlat.calls PyVasedc.shape f' t = some cs := by
  cases r with
  | nil =>
    unfold PyFlat.calls at h
    cases h
    exact .inl ⟨rfl, rfl⟩
  | cons p r =>
    cases f with
    | zero => cases h
    | succ f =>
      unfold PyFlat.calls at h
      unfold PyFlat.call at h
      dsimp only at h
      cases e : PyVasedc.shape p with
      | none => rw [e] at h; cases h
      | some q =>
        obtain ⟨n, k⟩ := q
        rw [e] at h
        obtain ⟨rfl, i, hi, rfl, rfl⟩ := shape_is e
        dsimp only at h
        rw [if_neg (Nat.not_lt_zero _), List.drop_zero] at h
        cases e2 : PyFlat.rows (arity i) r with
        | none => rw [e2] at h; cases h
        | some q =>
          obtain ⟨xs, t⟩ := q
          rw [e2] at h
          dsimp only at h
          cases e3 : PyFlat.calls PyVasedc.shape f t with
          | none => rw [e3] at h; cases h
          | some cs =>
            rw [e3] at h
            cases h
            exact .inr ⟨f, i, r, t, xs, cs, hi, rfl, e2, rfl, e3⟩
theorem nat8 {a : List Int} (h : (a.all (fun (z : Int) => natural z 8)) = true) : ∀ z ∈ a, 0 ≤ z ∧ z ≤ 255 := fun z hz => by
  have k := List.all_eq_true.mp h z hz
  unfold natural at k
  simp only [Bool.and_eq_true, decide_eq_true_eq] at k
  omega
theorem bytes_ok {a : List Int} (h : ∀ z ∈ a, 0 ≤ z ∧ z ≤ 255) : NeutralIO.bytes a = true := by
  unfold NeutralIO.bytes
  refine List.all_eq_true.mpr fun z hz => ?_
  have := h z hz
  simp only [Bool.and_eq_true, decide_eq_true_eq]
  exact this
theorem ask1 {a : List Int} (h : ((a.all (fun (z : Int) => natural z 8)) && decide (a.length ≤ 8192)) = true) : ∀ z ∈ a, 0 ≤ z ∧ z ≤ 255 := nat8 (Bool.and_eq_true_iff.mp h).1
/-- what is asked tells a call, and the rows of bytes with it -/
theorem asked_call {i : Nat} {xs : List (List Int)} (hi : i < 8) (hl : xs.length = arity i) (h : asked1 ([(i : Int)] :: xs) = true) : ∃ (bs : List Bytes) (c : Vasedc.Call), xs = bs.map intsOf ∧ callN i bs = some c ∧ callOf ([(i : Int)] :: xs) = some c := by
  have one : ∀ {a : List Int}, (∀ z ∈ a, 0 ≤ z ∧ z ≤ 255) → [a] = [bytesOf a].map intsOf := fun k => by rw [List.map_cons, List.map_nil, ints_back k]
  have two : ∀ {a b : List Int}, (∀ z ∈ a, 0 ≤ z ∧ z ≤ 255) → (∀ z ∈ b, 0 ≤ z ∧ z ≤ 255) → [a, b] = [bytesOf a, bytesOf b].map intsOf := fun k l => by rw [List.map_cons, List.map_cons, List.map_nil, ints_back k, ints_back l]
  have three : ∀ {a b c : List Int}, (∀ z ∈ a, 0 ≤ z ∧ z ≤ 255) → (∀ z ∈ b, 0 ≤ z ∧ z ≤ 255) → (∀ z ∈ c, 0 ≤ z ∧ z ≤ 255) → [a, b, c] = [bytesOf a, bytesOf b, bytesOf c].map intsOf := fun k l m => by rw [List.map_cons, List.map_cons, List.map_cons, List.map_nil, ints_back k, ints_back l, ints_back m]
  have l1 : ∀ {n : Nat}, n = 1 → xs.length = n → ∃ a, xs = [a] := fun e k => List.length_eq_one_iff.mp (k.trans e)
  have l2 : ∀ {n : Nat}, n = 2 → xs.length = n → ∃ a b, xs = [a, b] := fun e k => by
    have k := k.trans e
    rcases xs with _ | ⟨a, _ | ⟨b, _ | ⟨c, r⟩⟩⟩
    · cases k
    · cases k
    · exact ⟨a, b, rfl⟩
    · simp at k
  have l3 : ∀ {n : Nat}, n = 3 → xs.length = n → ∃ a b c, xs = [a, b, c] := fun e k => by
    have k := k.trans e
    rcases xs with _ | ⟨a, _ | ⟨b, _ | ⟨c, _ | ⟨d, r⟩⟩⟩⟩
    · cases k
    · cases k
    · cases k
    · exact ⟨a, b, c, rfl⟩
    · simp at k
  match i, hi with
  | 0, _ =>
    obtain ⟨a, rfl⟩ := l1 rfl hl
    have ka := ask1 (show ((a.all (fun (z : Int) => natural z 8)) && decide (a.length ≤ 8192)) = true from h)
    exact ⟨_, _, one ka, rfl, if_pos (bytes_ok ka)⟩
  | 1, _ =>
    obtain ⟨a, b, rfl⟩ := l2 rfl hl
    obtain ⟨h1, h2⟩ := Bool.and_eq_true_iff.mp (show (((a.all (fun (z : Int) => natural z 8)) && decide (a.length ≤ 8192)) && ((b.all (fun (z : Int) => natural z 8)) && decide (b.length ≤ 8192))) = true from h)
    exact ⟨_, _, two (ask1 h1) (ask1 h2), rfl, if_pos ⟨bytes_ok (ask1 h1), bytes_ok (ask1 h2)⟩⟩
  | 2, _ =>
    obtain ⟨a, rfl⟩ := l1 rfl hl
    have ka := ask1 (show ((a.all (fun (z : Int) => natural z 8)) && decide (a.length ≤ 8192)) = true from h)
    exact ⟨_, _, one ka, rfl, if_pos (bytes_ok ka)⟩
  | 3, _ =>
    obtain ⟨a, b, rfl⟩ := l2 rfl hl
    obtain ⟨h1, h2⟩ := Bool.and_eq_true_iff.mp (show (((a.all (fun (z : Int) => natural z 8)) && decide (a.length ≤ 8192)) && ((b.all (fun (z : Int) => natural z 8)) && decide (b.length ≤ 8192))) = true from h)
    exact ⟨_, _, two (ask1 h1) (ask1 h2), rfl, if_pos ⟨bytes_ok (ask1 h1), bytes_ok (ask1 h2)⟩⟩
  | 4, _ =>
    obtain ⟨a, rfl⟩ := l1 rfl hl
    have ka := ask1 (show ((a.all (fun (z : Int) => natural z 8)) && decide (a.length ≤ 8192)) = true from h)
    exact ⟨_, _, one ka, rfl, if_pos (bytes_ok ka)⟩
  | 5, _ =>
    obtain ⟨a, b, c, rfl⟩ := l3 rfl hl
    obtain ⟨h12, h3⟩ := Bool.and_eq_true_iff.mp (show ((((a.all (fun (z : Int) => natural z 8)) && decide (a.length ≤ 8192)) && ((b.all (fun (z : Int) => natural z 8)) && decide (b.length ≤ 8192))) && ((c.all (fun (z : Int) => natural z 8)) && decide (c.length ≤ 8192))) = true from h)
    obtain ⟨h1, h2⟩ := Bool.and_eq_true_iff.mp h12
    exact ⟨_, _, three (ask1 h1) (ask1 h2) (ask1 h3), rfl, if_pos ⟨bytes_ok (ask1 h1), bytes_ok (ask1 h2), bytes_ok (ask1 h3)⟩⟩
  | 6, _ =>
    obtain ⟨a, b, c, rfl⟩ := l3 rfl hl
    obtain ⟨h12, h3⟩ := Bool.and_eq_true_iff.mp (show ((((a.all (fun (z : Int) => natural z 8)) && decide (a.length ≤ 8192)) && ((b.all (fun (z : Int) => natural z 8)) && decide (b.length ≤ 8192))) && ((c.all (fun (z : Int) => natural z 8)) && decide (c.length ≤ 8192))) = true from h)
    obtain ⟨h1, h2⟩ := Bool.and_eq_true_iff.mp h12
    exact ⟨_, _, three (ask1 h1) (ask1 h2) (ask1 h3), rfl, if_pos ⟨bytes_ok (ask1 h1), bytes_ok (ask1 h2), bytes_ok (ask1 h3)⟩⟩
  | 7, _ =>
    obtain ⟨a, b, rfl⟩ := l2 rfl hl
    obtain ⟨h1, h2⟩ := Bool.and_eq_true_iff.mp (show (((a.all (fun (z : Int) => natural z 8)) && decide (a.length ≤ 8192)) && ((b.all (fun (z : Int) => natural z 8)) && decide (b.length ≤ 8192))) = true from h)
    exact ⟨_, _, two (ask1 h1) (ask1 h2), rfl, if_pos ⟨bytes_ok (ask1 h1), bytes_ok (ask1 h2)⟩⟩
theorem whole_id (c : List (List Int)) : PyVasedc.whole c = c := by
  unfold PyVasedc.whole
  split <;> rfl
theorem asked_raw {l : List Int} (h : PyVasedc.answers_asked l = true) : ∃ raw, PyFlat.calls PyVasedc.shape l.length l = some raw ∧ (∀ c ∈ raw, asked1 c = true) ∧ (PyVasedc.answers l).length ≤ 10000000 ∧ PyVasedc.answers l = PyFlat.told (PyFlat.played VasedcNeutral.step VasedcNeutral.start raw) := by
  unfold PyVasedc.answers_asked at h
  cases e : PyFlat.calls PyVasedc.shape l.length l with
  | none => rw [e] at h; cases h
  | some raw =>
    rw [e] at h
    dsimp only at h
    simp only [Bool.and_eq_true] at h
    obtain ⟨⟨_, h2⟩, h3⟩ := h
    have id : raw.map PyVasedc.whole = raw := (List.map_congr_left fun c _ => whole_id c).trans (List.map_id raw)
    rw [id] at h2
    unfold VasedcNeutral.asked at h2
    have h2 := (Bool.and_eq_true_iff.mp h2).1
    refine ⟨raw, rfl, fun c hc => List.all_eq_true.mp h2 c hc, of_decide_eq_true h3, ?_⟩
    unfold PyVasedc.answers PyVasedc.calls
    rw [e]
    dsimp only
    rw [id]
theorem step_is {s : Vasedc.Obj} {c : List (List Int)} {k : Vasedc.Call} (h : callOf c = some k) : VasedcNeutral.step s c = ((Vasedc.step s k).1, encode (Vasedc.step s k).2) := by
  unfold VasedcNeutral.step
  rw [h]
end Lp
set_option maxRecDepth 100000
set_option maxHeartbeats 4000000
namespace Lp
open PySem PySem.Spec PyProof.Rows L2
open VasedBase (Bytes word textRow one Answer faulty)
open Vaseda (Line Text Cmd Script showCmd readText)
open VasedcNeutral (encode asked1 callOf)
/-! ### a dict with numbers as keys -/
def KDctI (K : PySem.W.Frag) (a : Addr) (i : Int) (v : V) : Prop :=
  ∃ es n u, K.lookup a = some ⟨.type "dict", none, .dict es n, #[]⟩ ∧ (∀ e ∈ es, ∃ (j : Int) (t : Tok), e.key = .int j t ∧ e.hash = hashInt j) ∧ findBy Value.isInt es i = some u ∧ RelV v u
def rIxI (K : PySem.W.Frag) : R2 := fun x y H Q => ∃ a i v, x = .ref a ∧ y = .int i ∧ KDctI K a i v ∧ Q v H
theorem ix_ints {X : Cx} : IxR X (rIxI X.K) := by
  intro value slice pins z σ H x y v u Q I rx ry h hs
  obtain ⟨a, i, r, rfl, rfl, ⟨es, n, u0, hl, hk, e, ru⟩, q⟩ := h
  obtain rfl : v = Value.ref a := rx
  obtain ⟨t, rfl⟩ := ry
  have hm : z.heap.MapOf (intKind X.prog X.w) a (fun k => findBy Value.isInt es k) :=
    ⟨_, es, n, I.kIn _ _ hl, ⟨rfl, rfl, rfl⟩, rfl, fun d hd => by
      obtain ⟨j, t', e1, e2⟩ := hk d hd
      exact ⟨j, by rw [e1]; exact intKind_is X.prog X.w j t', e2⟩, fun _ => rfl⟩
  exact tail_any hm.typeIs slot_dict_getitem.lookup (wpAny_getItem_of (intKind_is X.prog X.w i t) hm e ⟨r, H, I.tok _, ru, q⟩) hs
/-- the module's dict of calls -/
structure DctC (K : PySem.W.Frag) (mg : Str → Option Value) : Prop where
  calls : ∃ d, mg "CALLS" = some (.ref d) ∧ ∀ x ∈ ([(0, "call_load"), (1, "call_diff"), (2, "call_patch"), (3, "call_script"), (4, "call_undo"), (5, "call_drift"), (6, "call_both"), (7, "call_hunks")] : List (Nat × Str)), ∃ f t, mg x.2 = some (.ref f) ∧ KDctI K d (x.1 : Int) (.ref t) ∧ ∀ H, SqT K H t [nV (arity x.1), .ref f]
/-- a local that holds a def is called, what the def raises is caught around it -/
def tCallW (P : Program) (w : World) (K : PySem.W.Frag) (mg : Str → Option Value) (base : Heap) (k i : Nat) (E : L2.St → XK) (t : TA) : TE := fun σ H Q => ∃ f sp, σ[i]? = some (some (.ref f)) ∧ HeldX P w K mg base k f sp ∧ t σ H fun vs H1 => sp vs H1 Q (E σ)
theorem pe_callW {X : Cx} {k i : Nat} {x : Str} {W : WX} {p pos : Pos} {e : Expr} {es : List Expr} {t : TA} (hr : Room k X.A) (hN : X.N[i]? = some x) (hv : Vis X.env.scope x) (tk : Takes X W) (ha : PA X (e :: es) t)
    (hdb : (x == ("__debug__" : Str)) = false := by decide) (hcd : (x == ("__classdict__" : Str)) = false := by decide) (he : starEach (e :: es) X.env = (false, eval e X.env) :: starEach es X.env := by rfl) (hpl : (backTo pos (starEach es X.env)).any (·.1) = false := by rfl) :
    PE X (.Call (.Name x p) (e :: es) [] pos) (tCallW X.prog X.w X.K X.mg X.base k i (WE W) t) := ⟨fun pins z σ H Q I ⟨f, sp, hs, ⟨fd, ps, F, kp, b⟩, ht⟩ => by
  refine wpAny_Call_Name_kw (wpAny_mono ((pe_var (pos := p) hN hv hdb hcd).run pins z σ H (fun v G => v = .ref f ∧ G = H) I ⟨.ref f, hs, rfl, rfl⟩) (fun u y q => ?_) fun _ _ q => q)
  obtain ⟨v, G, J, r, rfl, rfl⟩ := q
  cases r
  refine PySem.W.callWith_K (h₀ := X.base) J.ok.mod.kin kp (wpAny_mono (ha.run pos pins y σ _ _ J ht) (fun us y2 q => ?_) fun _ _ q => q) he hpl
  obtain ⟨vs, G2, J2, r, q⟩ := q
  exact ⟨J2.kIn, run_fnS (E := WE W) F (hr.mono (Nat.le_refl _)) b (passAt tk σ) J2 r q⟩⟩
section
variable {P : Program} {w : World} {K : PySem.W.Frag} {mg : Str → Option Value} {base : Heap} {A : Ad}
theorem callN_lt {i : Nat} {rows : List Bytes} {c : Vasedc.Call} (h : callN i rows = some c) : i < 8 := by
  match i, h with
  | 0, _ => decide
  | 1, _ => decide
  | 2, _ => decide
  | 3, _ => decide
  | 4, _ => decide
  | 5, _ => decide
  | 6, _ => decide
  | 7, _ => decide
  | i + 8, h => exact absurd h (by unfold callN; simp)
theorem call_def (T : Txt K mg A) (DD : Dcts K mg w) (DC : DctC K mg) (TB : LamX.TabB base mg A.tc A.tb) : ∃ cc, mg "CALLS" = some (.ref cc) ∧ ∀ i : Nat, i < 8 → ∃ (f t : Addr), KDctI K cc (i : Int) (.ref t) ∧ (∀ H, SqT K H t [nV (arity i), .ref f]) ∧ HeldX P w K mg base 9 f (spCall A i) := by
  obtain ⟨cc, hc, all⟩ := DC.calls
  refine ⟨cc, hc, fun i hi => ?_⟩
  match i, hi with
  | 0, _ => obtain ⟨f, t, h1, h2, h3⟩ := all (0, "call_load") (by simp); exact ⟨f, t, h2, h3, (k_call_load T).heldX h1 (by decide)⟩
  | 1, _ => obtain ⟨f, t, h1, h2, h3⟩ := all (1, "call_diff") (by simp); exact ⟨f, t, h2, h3, (k_call_diff T).heldX h1 (by decide)⟩
  | 2, _ => obtain ⟨f, t, h1, h2, h3⟩ := all (2, "call_patch") (by simp); exact ⟨f, t, h2, h3, (k_call_patch T DD).heldX h1 (by decide)⟩
  | 3, _ => obtain ⟨f, t, h1, h2, h3⟩ := all (3, "call_script") (by simp); exact ⟨f, t, h2, h3, (k_call_script T).heldX h1 (by decide)⟩
  | 4, _ => obtain ⟨f, t, h1, h2, h3⟩ := all (4, "call_undo") (by simp); exact ⟨f, t, h2, h3, (k_call_undo T DD).heldX h1 (by decide)⟩
  | 5, _ => obtain ⟨f, t, h1, h2, h3⟩ := all (5, "call_drift") (by simp); exact ⟨f, t, h2, h3, (k_call_drift T TB).heldX h1 (by decide)⟩
  | 6, _ => obtain ⟨f, t, h1, h2, h3⟩ := all (6, "call_both") (by simp); exact ⟨f, t, h2, h3, (k_call_both T).heldX h1 (by decide)⟩
  | 7, _ => obtain ⟨f, t, h1, h2, h3⟩ := all (7, "call_hunks") (by simp); exact ⟨f, t, h2, h3, (k_call_hunks T).heldX h1 (by decide)⟩
def spAnswerOf (A : Ad) : Sp := fun vs H Q _ => ∃ (hd R pt : Addr) (o : Option Script) (i : Nat) (rows : List Bytes) (c : Vasedc.Call), vs = [.ref hd, nV i, .ref R] ∧ callN i rows = some c ∧ HoldAt A H hd pt o ∧ RowsAt H R rows ∧ LamX.TabS H A.tb qN ∧
  (∀ H' D, Fr hd H H' → LamX.TabS H' A.tb qN → HoldAt A H' hd pt (Vasedc.step o c).1 → NewD H D → H' D = some (.lst ((encode (Vasedc.step o c).2).map V.int)) → Q (.ref D) H')
abbrev N_answer_of : List Str := ["holder", "number", "rows", "call", "refusal"]
theorem sc_answer_of : FnScope N_answer_of ["holder", "number", "rows"] (defScope (top 125)) := ⟨rfl, rfl, rfl, by decide +kernel, rfl, by decide +kernel, by decide +kernel⟩
theorem k_answer_of (T : Txt K mg A) (DD : Dcts K mg w) (DC : DctC K mg) (TB : LamX.TabB base mg A.tc A.tb) : Ok P w K mg base 10 "answer_of" (spAnswerOf A) := by
  refine ok_mk T.d_answer_of sc_answer_of (fun vs H Q E ⟨_, _, _, _, _, _, _, e, _⟩ => by rw [e]; rfl) fun f cdv AA outer s H vs Q E hr tk po h => ?_
  obtain ⟨cc, hC, defs⟩ := call_def (P := P) T DD DC TB
  refine ⟨_, (pss_cons (ps_set (i := 3) sc_answer_of.nd rfl (Or.inl rfl) (pe_ix ix_tup (pe_ix ix_ints (pe_gv (v := .ref cc) ⟨.ref cc, hC, rfl⟩) (pv 1) (fun _ _ => rfl)) pe_int (fun _ _ => rfl)))
    (pss_one (ps_try_as (i := 4) (tb := fun W => tRet (tCallW P w K mg base 9 3 (WE W) (tCons (tVar 0) (tCons (tVar 2) tNil)))) (ts := fun a cls d => tRet (tLst (tCons (tExF K a cls d "number" (tVar 4)) tNil))) (Wout := fun cls d _ H => E cls d H) rfl rfl sc_answer_of.nd rfl rfl ⟨rfl, by decide, Or.inl T.x_Refusal.gC⟩ tk
      (fun W pn xe tk _ => pss_one (ps_ret (pe_callW (i := 3) (k := 9) hr rfl (.inl rfl) tk (pa_cons (pv 0) (pa_cons (pv 2) pa_nil)))))
      (fun a oe cls d pn hz hf => pss_one (ps_ret (pe_lst (pa_cons (pe_exF hz hf (pv 4)) pa_nil))))))), ?_⟩
  obtain ⟨hd, R, pt, o, i, rows, c, rfl, ec, ho, rw_, tab, q⟩ := h
  obtain ⟨cf, ct, h1, h2, h3⟩ := defs i (callN_lt ec)
  refine ⟨_, rfl, cc, _, _, rfl, rfl, h1, ?_⟩
  refine ⟨ct, _, 1, _, rfl, rfl, h2 H, atI1, ?_⟩
  refine ⟨cf, _, rfl, h3, _, rfl, _, rfl, hd, R, pt, o, rows, c, rfl, ec, ho, rw_, tab, q, fun k ek H' d C mC fr t' h' hd' => ?_⟩
  have main : ∀ {x : Str} {qual : Str} {st : Stmt} {ps : List Str}, ExT K mg x C qual st ps ["number"] → PySem.W.exmOne K (.ref C) (.ref A.re) = some true → ∃ b, PySem.W.exmOne K (.ref C) (.ref A.re) = some b ∧ (b = true → ∀ a, H' a = none → ((fun a cls d => tRet (tLst (tCons (tExF K a cls d "number" (tVar 4)) tNil))) : Addr → Value → Option Addr → TS) a (.ref C) (some d) { nx := fun _ H' => Q .non H', rt := Q } ([some (.ref hd), some (nV i), some (.ref R), some (.ref cf), some (.ref a)]) H') ∧ (b = false → E (.ref C) (some d) H') := by
    intro x qual st ps X ex
    refine ⟨true, ex, fun _ a na => ?_, fun z => nomatch z⟩
    refine ⟨_, rfl, rfl, C, rfl, X.xf, X.no _ (by decide), d, _, _, rfl, hd', rfl, ?_⟩
    refine ⟨sz1, fun D hD => ?_⟩
    have e := same_new (o := .lst [.int k]) hD
    have en : encode (Vasedc.step o c).2 = [k] := by rw [ek]; rfl
    rw [en] at q
    refine q _ D (fr.trans (Fr.of e)) (tab_same t' e) (h'.same e) (fun xs z => ?_) upd_same
    obtain ⟨dx, v, g1, _⟩ := ho.ex
    have := fr D _ (fun z' => by rw [z', g1] at z; cases z) z (fun _ z => nomatch z)
    rw [hD] at this
    cases this
  simp only [List.mem_cons, List.not_mem_nil, or_false] at mC
  rcases mC with rfl | rfl | rfl | rfl
  · exact main T.x_NoScriptHeld T.e_ns
  · exact main T.x_NotAText T.e_nt
  · exact main T.x_NoScriptForPatch T.e_nn
  · exact main T.x_TooMuch T.e_tm
end
end Lp
set_option maxRecDepth 100000
set_option maxHeartbeats 4000000
namespace Lp
open PySem PySem.Spec PyProof.Rows L2
open VasedBase (Bytes word textRow one Answer faulty)
open Vaseda (Line Text Cmd Script showCmd readText)
open VasedcNeutral (encode asked1 callOf)
section
variable {P : Program} {w : World} {K : PySem.W.Frag} {mg : Str → Option Value} {base : Heap} {A : Ad}
theorem sq_to {H H' : Hp} {L : Addr} {xs : List V} (h : SqL K H L xs) (e : ∀ u, H L = some u → (∀ ps, u ≠ .tbl ps) → (∀ C d fs, u ≠ .ins C d fs) → H' L = some u) : SqL K H' L xs := by
  rcases h with (h | ⟨o, h⟩) | h
  · exact .inl (.inl (e _ h (fun _ z => nomatch z) (fun _ _ _ z => nomatch z)))
  · exact .inl (.inr ⟨o, e _ h (fun _ z => nomatch z) (fun _ _ _ z => nomatch z)⟩)
  · exact .inr h
theorem sq_same {H H' : Hp} {L : Addr} {xs : List V} (h : SqL K H L xs) (e : Same H H') : SqL K H' L xs := sq_to h fun _ q _ _ => e _ _ q
def spRowsFrom (K : PySem.W.Frag) : Sp := fun vs H Q _ => ∃ (L : Addr) (l t : List Int) (a n : Nat) (bs : List Bytes), vs = [.ref L, nV a, nV n] ∧ SqL K H L (l.map V.int) ∧ n ≤ 100 ∧ PyFlat.rows n (l.drop a) = some (bs.map intsOf, t) ∧ New H Q fun H' R => RowsAt H' R bs
theorem drop_head {l r : List Int} {a : Nat} {z : Int} (h : l.drop a = z :: r) : l[a]? = some z ∧ r = l.drop (a + 1) ∧ a < l.length := by
  have lt : a < l.length := by
    have := congrArg List.length h
    rw [List.length_drop, List.length_cons] at this
    omega
  rw [List.drop_eq_getElem_cons lt] at h
  injection h with h1 h2
  exact ⟨by rw [List.getElem?_eq_getElem lt, h1], h2.symm, lt⟩
abbrev N_rows_from : List Str := ["calls", "at", "count", "rows", "end"]
theorem sc_rows_from : FnScope N_rows_from ["calls", "at", "count"] (defScope (top 124)) := ⟨rfl, rfl, rfl, by decide +kernel, rfl, by decide +kernel, by decide +kernel⟩
theorem k_rows_from (T : Txt K mg A) : Ok P w K mg base 1 "rows_from" (spRowsFrom K) := by
  refine ok_mk T.d_rows_from sc_rows_from (fun vs H Q E ⟨_, _, _, _, _, _, e, _⟩ => by rw [e]; rfl) fun f cdv AA outer s H vs Q E hr tk po h => ⟨_, (pss_cons (ps_set (i := 3) sc_rows_from.nd rfl (Or.inl rfl) (pe_lst pa_nil))
    (pss_cons (ps_while po (pt_cmpR op_lt (pe_len T.b_len (pv 3)) (pv 2) (nomark _)) (pss_cons (ps_set (i := 4) sc_rows_from.nd rfl (Or.inl rfl) (pe_op op_add (pe_op op_add (pv 1) pe_int) (pe_ix ix_list (pv 0) (pv 1) (fun _ _ => rfl))))
    (pss_cons (ps_expr (pe_bm PySem.F.plainAttrs_list PySem.F.slot_list_append PySem.F.type_list_append mt_append (pv 3) (pa_cons (pe_slice sl_list (pv 0) (po_some (pe_op op_add (pv 1) pe_int)) (po_some (pv 4))) pa_nil)))
    (pss_one (ps_set (i := 1) sc_rows_from.nd rfl (Or.inl rfl) (pv 4))))))
    (pss_one (ps_ret (pv 3))))), ?_⟩
  obtain ⟨L, l, t, a, n, bs, rfl, hL, hn, hr, q⟩ := h
  refine ⟨Nat.zero_le _, fun R hR => ?_⟩
  refine ⟨fun m σ G => ∃ (j a' : Nat) (e : Option V), σ = [some (.ref L), some (nV a'), some (nV n), some (.ref R), e] ∧ Same H G ∧ (∃ rs : List Addr, G R = some (.lst (rs.map V.ref)) ∧ AllAt (fun r (b : Bytes) => r ≠ R ∧ G r = some (.lst (b.map iB))) rs (bs.take j)) ∧ j + m = n ∧ PyFlat.rows m (l.drop a') = some ((bs.drop j).map intsOf, t),
    ⟨n, 0, a, none, rfl, same_new hR, ⟨[], upd_same, by rw [List.take_zero]; exact .nil⟩, Nat.zero_add _, by rw [List.drop_zero]; exact hr⟩, ?_⟩
  rintro m σ G ⟨j, a', e, rfl, eG, ⟨rs, g1, g2⟩, ejm, hm⟩
  have blen : bs.length = n := by
    have := (rows_rest hr).1
    rw [List.length_map] at this
    exact this
  have rl : (rs.map V.ref).length = j := by
    rw [List.length_map, g2.len, List.length_take]
    omega
  refine ⟨_, rfl, R, _, rfl, SqL.of g1, ?_⟩
  rw [rl]
  refine ⟨_, rfl, _, _, rfl, rfl, _, rfl, if_2 (fun k => ?_) fun k => ?_⟩
  · have k : j < n := by have := of_decide_eq_true k; omega
    obtain ⟨m, rfl⟩ : ∃ m', m = m' + 1 := ⟨m - 1, by omega⟩
    obtain ⟨b, hb⟩ : ∃ b, bs[j]? = some b := ⟨_, List.getElem?_eq_getElem (by omega)⟩
    rw [drop_more hb, List.map_cons] at hm
    obtain ⟨z, r', ys, er, z0, zl, ex, h'⟩ := row_more hm
    injection ex with ex ey
    obtain ⟨hz, rfl, lt⟩ := drop_head er
    rw [List.drop_drop] at h'
    rw [List.length_drop] at zl
    have hL' : SqL K G L (l.map V.int) := sq_same hL eG
    have ix : atI (l.map V.int) (a' : Int) = some (V.int z) := at_n (by rw [List.getElem?_map, hz]; rfl) rfl
    refine ⟨fun σ' G' => ∃ (a2 : Nat) (e2 : Option V), σ' = [some (.ref L), some (nV a2), some (nV n), some (.ref R), e2] ∧ Same H G' ∧ (∃ rs : List Addr, G' R = some (.lst (rs.map V.ref)) ∧ AllAt (fun r (b : Bytes) => r ≠ R ∧ G' r = some (.lst (b.map iB))) rs (bs.take (j + 1))) ∧ PyFlat.rows m (l.drop a2) = some ((bs.drop (j + 1)).map intsOf, t),
      fun σ' G' ⟨a2, e2, x1, x2, x3, x4⟩ => ⟨m, by omega, j + 1, a2, e2, x1, x2, x3, by omega, x4⟩, ?_⟩
    refine ⟨_, rfl, _, _, rfl, rfl, _, rfl, _, rfl, L, _, _, _, rfl, rfl, hL', ix, ?_⟩
    obtain ⟨y, rfl⟩ := Int.eq_ofNat_of_zero_le z0
    have yl : y ≤ l.length - (a' + 1) := zl
    refine ⟨_, _, rfl, rfl, ?_⟩
    refine ⟨_, rfl, .inl ⟨rfl, _, SqL.of g1⟩, ?_⟩
    refine ⟨_, rfl, _, rfl, _, _, rfl, rfl, _, rfl, _, rfl, _, rfl, L, _, rfl, hL', fun S hS => ?_⟩
    have ee : ((a' : Int) + 1 + (y : Int)) = ((a' + 1 + y : Nat) : Int) := by omega
    have e1 : ((a' : Int) + 1) = ((a' + 1 : Nat) : Int) := by omega
    have cut : cutV (l.map V.int) (some ((a' : Int) + 1)) (some ((a' : Int) + 1 + (y : Int))) = b.map iB := by
      rw [ee, e1, cutV_two _ _ _ (by rw [List.length_map]; omega), ← List.map_drop, ← List.map_take, show a' + 1 + y - (a' + 1) = y by omega, ← intsOf_V, ex]
      rfl
    rw [cut]
    have neS : S ≠ R := ne_of_none g1 hS |>.symm
    have eS := same_new (o := .lst (b.map iB)) hS
    refine ⟨R, _, .ref S, rfl, rfl, eS _ _ g1, by rw [List.length_map]; exact sz_lt (by rw [List.length_map] at rl; omega), ?_⟩
    generalize hG2 : upd (upd G S (.lst (b.map iB))) R (.lst (rs.map V.ref ++ [.ref S])) = G2
    have atR : G2 R = some (.lst ((rs ++ [S]).map V.ref)) := by rw [← hG2, upd_same, List.map_append]; rfl
    have atS : G2 S = some (.lst (b.map iB)) := by rw [← hG2, upd_ne neS, upd_same]
    have old : AllAt (fun r (b : Bytes) => r ≠ R ∧ G2 r = some (.lst (b.map iB))) rs (bs.take j) := g2.mono fun r x _ _ h => ⟨h.1, by rw [← hG2, upd_ne h.1]; exact eS _ _ h.2⟩
    refine ⟨_, rfl, a' + 1 + y, some (.int ((a' : Int) + 1 + (y : Int))), ?_, ?_, ⟨rs ++ [S], atR, ?_⟩, ?_⟩
    · show [_, some (V.int ((a' : Int) + 1 + (y : Int))), _, _, _] = _
      rw [ee]
      rfl
    · rw [← hG2]
      exact same_upd (same_trans eG eS) hR
    · rw [take_more hb]
      exact old.snoc ⟨neS, atS⟩
    · rw [ey]
      exact h'
  · have k : n ≤ j := by have := of_decide_eq_false k; omega
    rw [List.take_of_length_le (by omega)] at g2
    exact ⟨_, rfl, q G R eG hR ⟨rs, g1, g2.mono fun _ _ _ _ h => h.2⟩⟩
end
end Lp
set_option maxRecDepth 100000
set_option maxHeartbeats 4000000
namespace Lp
open PySem PySem.Spec PyProof.Rows L2
open VasedBase (Bytes word textRow one Answer faulty)
open Vaseda (Line Text Cmd Script showCmd readText)
open VasedcNeutral (encode asked1 callOf)
theorem HoldAt.put {A : Ad} {H : Hp} {hd pt : Addr} {o : Option Script} {xs : List V} (k : HoldAt A H hd pt o) : HoldAt A (upd H pt (.lst xs)) hd pt o := by
  obtain ⟨xs0, hx⟩ := k.apart
  obtain ⟨dx, v, h1, h2, h3⟩ := k.ex
  have keep : ∀ b u, H b = some u → (∀ ys, u ≠ .lst ys) → upd H pt (.lst xs) b = some u := fun b u h n => by
    rw [upd_ne (fun z => by rw [z, hx] at h; cases h; exact n _ rfl)]
    exact h
  refine ⟨⟨xs, upd_same⟩, dx, v, keep _ _ h1 (fun _ z => nomatch z), h2, fun s hs => ?_⟩
  obtain ⟨S, h4, h0, ⟨cs, s1, s2⟩, h6⟩ := h3 s hs
  refine ⟨S, h4, h0, ⟨cs, by rw [upd_ne h0]; exact s1, s2.mono fun c m _ _ q => ?_⟩, h6⟩
  obtain ⟨dc, va, vd, q1, q2, q3⟩ := q
  have kt : KeepT H (upd H pt (.lst xs)) := fun _ _ h => keep _ _ h (fun _ z => nomatch z)
  exact ⟨dc, va, vd, keep _ _ q1 (fun _ z => nomatch z), q2.keep kt, q3.keep ⟨kt, fun _ _ _ h => keep _ _ h (fun _ z => nomatch z)⟩⟩
theorem tab_put {H : Hp} {p D : Addr} {q : Str} {xs ys : List V} (t : LamX.TabS H p q) (h : H D = some (.lst xs)) : LamX.TabS (upd H D (.lst ys)) p q := by
  obtain ⟨ps, h1, h2, h3⟩ := t
  have keep : ∀ b u, H b = some u → (∀ ys, u ≠ .lst ys) → upd H D (.lst ys) b = some u := fun b u hb n => by
    rw [upd_ne (fun z => by rw [z, h] at hb; cases hb; exact n _ rfl)]
    exact hb
  refine ⟨ps, keep _ _ h1 (fun _ z => nomatch z), h2, fun pos cv hc => ?_⟩
  obtain ⟨c, e, hcc⟩ := h3 pos cv hc
  exact ⟨c, e, keep _ _ hcc (fun _ z => nomatch z)⟩
/-- a list that is read, apart from the one at T -/
def SqA (K : PySem.W.Frag) (H : Hp) (L T : Addr) (xs : List V) : Prop := ∀ H' : Hp, (L ≠ T → ∀ u, H L = some u → (∀ ps, u ≠ .tbl ps) → (∀ C d fs, u ≠ .ins C d fs) → H' L = some u) → SqL K H' L xs
theorem SqA.sq {K : PySem.W.Frag} {H : Hp} {L T : Addr} {xs : List V} (h : SqA K H L T xs) : SqL K H L xs := h H fun _ _ q _ _ => q
theorem SqA.to {K : PySem.W.Frag} {H H' : Hp} {L T : Addr} {xs : List V} (h : SqA K H L T xs) (e : L ≠ T → ∀ u, H L = some u → (∀ ps, u ≠ .tbl ps) → (∀ C d fs, u ≠ .ins C d fs) → H' L = some u) : SqA K H' L T xs := fun G k => h G fun n u q a b => k n u (e n u q a b) a b
theorem SqA.same {K : PySem.W.Frag} {H H' : Hp} {L T : Addr} {xs : List V} (h : SqA K H L T xs) (e : Same H H') : SqA K H' L T xs := h.to fun _ u q _ _ => e _ u q
theorem SqA.put {K : PySem.W.Frag} {H : Hp} {L T : Addr} {xs ys : List V} (h : SqA K H L T xs) : SqA K (upd H T (.lst ys)) L T xs := h.to fun n u q _ _ => by
  rw [upd_ne n]
  exact q
theorem SqA.fr {K : PySem.W.Frag} {H H' : Hp} {L T hd : Addr} {xs : List V} (h : SqA K H L T xs) (i : ∃ C d fs, H hd = some (.ins C d fs)) (e : Fr hd H H') : SqA K H' L T xs := h.to fun _ u q a b => by
  obtain ⟨C, d, fs, hi⟩ := i
  exact e L u (fun z => by rw [z, hi] at q; cases q; exact b _ _ _ rfl) q a
theorem SqA.mk {K : PySem.W.Frag} {H : Hp} {L T : Addr} {xs : List V} (h : SqL K H L xs) (n : H T = none) : SqA K H L T xs := fun G k => by
  rcases h with (h | ⟨o, h⟩) | h
  · exact .inl (.inl (k (ne_of_none h n) _ h (fun _ z => nomatch z) (fun _ _ _ z => nomatch z)))
  · exact .inl (.inr ⟨o, k (ne_of_none h n) _ h (fun _ z => nomatch z) (fun _ _ _ z => nomatch z)⟩)
  · exact .inr h
theorem lens_sum (bs : List Bytes) : (bs.map fun b : Bytes => (1 : Int) + (b.length : Int)).sum = (rowsLen (bs.map intsOf) : Int) := by
  unfold rowsLen
  rw [List.map_map]
  induction bs with
  | nil => rfl
  | cons b r ih =>
    rw [List.map_cons, List.map_cons, List.sum_cons, List.sum_cons, ih]
    have e : ((fun x : List Int => 1 + x.length) ∘ intsOf) b = 1 + b.length := by
      show 1 + (intsOf b).length = _
      unfold intsOf
      rw [List.length_map]
    rw [e]
    omega
structure Mid (A : Ad) (K : PySem.W.Frag) (L : Addr) (l : List Int) (hd T0 : Addr) (m a : Nat) (G : Hp) : Prop where
  ex : ∃ (o : Option Script) (acc : List Int) (raw : List (List (List Int))) (f : Nat), SqA K G L T0 (l.map V.int) ∧ LamX.TabS G A.tb qN ∧ HoldAt A G hd T0 o ∧ G T0 = some (.lst (acc.map V.int)) ∧ raw.length = m ∧
    PyFlat.calls PyVasedc.shape f (l.drop a) = some raw ∧ (∀ c ∈ raw, asked1 c = true) ∧ acc ++ PyFlat.told (PyFlat.played VasedcNeutral.step o raw) = PyVasedc.answers l
section
variable {P : Program} {w : World} {K : PySem.W.Frag} {mg : Str → Option Value} {base : Heap} {A : Ad}
theorem ok_mkF {x : Str} {st : Stmt} {N ps : List Str} {k : Nat} {sp : Sp} (F : Dfn K mg x st ps) (S : FnScope N ps (defScope st)) (len : ∀ vs H Q E, sp vs H Q E → vs.length = ps.length)
    (hbody : ∀ (f : Addr) (cdv : Value) (A : Around) (outer : List Env) (s : Shared) (H : Hp) (vs : List V) (Q : VK) (E : XK), Room k (A.deeper (envOfC x (defScope st) s.heap.objs.size f cdv)) →
      Takes (cxOf (L2.CX P w) P w K mg base N x (defScope st) f cdv A outer s H E) (fun cls d _ H => E cls d H) → PassesOwn (model P w) (A.deeper (envOfC x (defScope st) s.heap.objs.size f cdv)) (envOfC x (defScope st) s.heap.objs.size f cdv) (cxOf (L2.CX P w) P w K mg base N x (defScope st) f cdv A outer s H E).xe → sp vs H Q E →
      ∃ t, PSs (cxOf (L2.CX P w) P w K mg base N x (defScope st) f cdv A outer s H E) (defBody st) t ∧ t { nx := fun _ H' => Q .non H', rt := Q } (start N vs) H) : ∃ (f : Addr) (fd : FuncData), FnOk P w K mg base (L2.CX P w) (k + 1) f fd ps sp ∧ mg x = some (.ref f) ∧ Binds K fd ps [] := by
  obtain ⟨f, fd, F, hm, hb⟩ := F.ex
  exact ⟨f, fd, F.okX S len fun cdv A outer s H vs Q E hr h => hbody f cdv A outer s H vs Q E hr (takes_of rfl rfl rfl rfl) (passes_of (X := cxOf (L2.CX P w) P w K mg base N x (defScope st) f cdv A outer s H E) rfl) h, hm, hb⟩
def spAnswers (K : PySem.W.Frag) (A : Ad) : Sp := fun vs H Q _ => ∃ (L : Addr) (l : List Int), vs = [.ref L] ∧ SqL K H L (l.map V.int) ∧ PyVasedc.answers_asked l = true ∧ LamX.TabS H A.tb qN ∧ (∀ H' D, H' D = some (.lst ((PyVasedc.answers l).map V.int)) → Q (.ref D) H')
abbrev N_answers : List Str := ["calls", "holder", "told", "at", "number", "rows", "answer", "row"]
theorem sc_answers : FnScope N_answers ["calls"] (defScope (top 123)) := ⟨rfl, rfl, rfl, by decide +kernel, rfl, by decide +kernel, by decide +kernel⟩
theorem k_answers (T : Txt K mg A) (DD : Dcts K mg w) (DC : DctC K mg) (TB : LamX.TabB base mg A.tc A.tb) : ∃ (f : Addr) (fd : FuncData), FnOk P w K mg base (L2.CX P w) 11 f fd ["calls"] (spAnswers K A) ∧ mg "answers" = some (.ref f) ∧ Binds K fd ["calls"] [] := by
  refine ok_mkF T.d_answers sc_answers (fun vs H Q E ⟨_, _, e, _⟩ => by rw [e]; rfl) fun f cdv AA outer s H vs Q E hr tk po h => ?_
  obtain ⟨cc, hC, defs⟩ := call_def (P := P) (w := w) T DD DC TB
  refine ⟨_, (pss_cons (ps_set (i := 1) sc_answers.nd rfl (Or.inl rfl) (pe_mk0 (mk_Holder T) hr tk))
    (pss_cons (ps_set (i := 2) sc_answers.nd rfl (Or.inl rfl) (pe_lst pa_nil))
    (pss_cons (ps_set (i := 3) sc_answers.nd rfl (Or.inl rfl) pe_int)
    (pss_cons (ps_while po (pt_cmpR op_lt (pv 3) (pe_len T.b_len (pv 0)) (nomark _)) (pss_cons (ps_set (i := 4) sc_answers.nd rfl (Or.inl rfl) (pe_ix ix_list (pv 0) (pv 3) (fun _ _ => rfl)))
    (pss_cons (ps_set (i := 5) sc_answers.nd rfl (Or.inl rfl) (pe_k (k_rows_from T) hr tk (pa_cons (pv 0) (pa_cons (pe_op op_add (pv 3) pe_int) (pa_cons (pe_ix ix_tup (pe_ix ix_ints (pe_gv (v := .ref cc) ⟨.ref cc, hC, rfl⟩) (pv 4) (fun _ _ => rfl)) pe_int (fun _ _ => rfl)) pa_nil)))))
    (pss_cons (ps_aug (i := 3) sc_answers.nd rfl (.inl rfl) (pe_op op_add pe_int (pe_callB (cr_sum rfl) rfl T.b_sum (by decide +kernel) (pa_cons (pe_lc (own := [("row", 7)]) (g := gName 7) rfl sc_answers.nd (pi_list (pv 5)) (blkOk_by (own := [("row", 7)]) (N := N_answers) (sc := defScope (top 123)) (by decide +kernel)) (fun _ _ _ _ _ => pg_name (i := 7) sc_answers.nd rfl (Or.inl rfl)) (fun _ _ _ _ _ => pts_nil) (fun _ _ _ _ _ => (pe_op op_add pe_int (pe_lenK (K := K) rfl T.b_len (pv 7))))) pa_nil))) ip_add)
    (pss_cons (ps_set (i := 6) sc_answers.nd rfl (Or.inl rfl) (pe_k (k_answer_of T DD DC TB) hr tk (pa_cons (pv 1) (pa_cons (pv 4) (pa_cons (pv 5) pa_nil)))))
    (pss_cons (ps_expr (pe_bm PySem.F.plainAttrs_list PySem.F.slot_list_append PySem.F.type_list_append mt_append (pv 2) (pa_cons (pe_len T.b_len (pv 6)) pa_nil)))
    (pss_one (ps_expr (pe_bm PySem.F.plainAttrs_list PySem.F.slot_list_extend PySem.F.type_list_extend mt_extend (pv 2) (pa_cons (pv 6) pa_nil))))))))))
    (pss_one (ps_ret (pv 2))))))), ?_⟩
  obtain ⟨L, l, rfl, sq, ask, tab, q⟩ := h
  obtain ⟨raw0, hr0, hask, short, ean⟩ := asked_raw ask
  refine fun hd dx nh nd ne => ⟨hd, dx, rfl, upd_same, fun G1 b1 h1 => ⟨rfl, ?_⟩⟩
  have e1 : Same H G1 := fun u v hu => b1 u v (ne_of_none hu nh) ((same_upd (same_new nd) nh) _ _ hu)
  refine ⟨Nat.zero_le _, fun T0 hT => ?_⟩
  generalize hG2 : upd G1 T0 (.lst []) = G2
  have e2 : Same G1 G2 := hG2 ▸ same_new hT
  have h2 : G2 T0 = some (.lst []) := by rw [← hG2, upd_same]
  refine ⟨fun m σ G => ∃ (a : Nat) (e4 e5 e6 : Option V), σ = [some (.ref L), some (.ref hd), some (.ref T0), some (nV a), e4, e5, e6, none] ∧ Mid A K L l hd T0 m a G,
    ⟨raw0.length, 0, none, none, none, rfl, ⟨VasedcNeutral.start, [], raw0, l.length, (SqA.mk (sq_same sq e1) hT).same e2, tab_same tab (same_trans e1 e2), ⟨⟨_, h2⟩, dx, .non, e2 _ _ h1, fun _ => rfl, fun s z => nomatch z⟩, h2, rfl, hr0, hask, ean.symm⟩⟩, ?_⟩
  rintro m σ G ⟨a, e4, e5, e6, rfl, ⟨o, acc, raw, fu, sa, tabG, hold, hacc, hlen, hcalls, hask, hall⟩⟩
  refine ⟨_, rfl, _, rfl, L, _, rfl, sa.sq, ?_⟩
  rw [show (l.map V.int).length = l.length from List.length_map ..]
  refine ⟨_, _, rfl, rfl, _, rfl, if_2 (fun k => ?_) fun k => ?_⟩
  · have k : a < l.length := by have := of_decide_eq_true k; omega
    rcases calls_more hcalls with ⟨z, _⟩ | ⟨fu', i, r', t, xs, cs, hi, z, hrows, rfl, hcs⟩
    · have := congrArg List.length z
      rw [List.length_drop, List.length_nil] at this
      omega
    obtain ⟨hz, rfl, _⟩ := drop_head z
    obtain ⟨hl, rfl, hle⟩ := rows_rest hrows
    obtain ⟨bs, c, rfl, hcn, hcall⟩ := asked_call hi hl (hask _ List.mem_cons_self)
    obtain ⟨cf, ct, g1, g2, _⟩ := defs i hi
    have ix : atI (l.map V.int) (a : Int) = some (V.int (i : Int)) := at_n (by rw [List.getElem?_map, hz]; rfl) rfl
    have bl : bs.length = arity i := by rw [← hl, List.length_map]
    have ar : arity i ≤ 3 := by
      match i, hi with
      | 0, _ => decide
      | 1, _ => decide
      | 2, _ => decide
      | 3, _ => decide
      | 4, _ => decide
      | 5, _ => decide
      | 6, _ => decide
      | 7, _ => decide
    refine ⟨fun σ' G' => ∃ (a' : Nat) (x4 x5 x6 : Option V), σ' = [some (.ref L), some (.ref hd), some (.ref T0), some (nV a'), x4, x5, x6, none] ∧ Mid A K L l hd T0 cs.length a' G',
      fun σ' G' ⟨a', x4, x5, x6, y1, y2⟩ => ⟨cs.length, by rw [← hlen]; exact Nat.lt_succ_self _, a', x4, x5, x6, y1, y2⟩, ?_⟩
    -- number, rows
    refine ⟨_, rfl, _, rfl, L, _, _, _, rfl, rfl, sa.sq, ix, ?_⟩
    refine ⟨_, rfl, _, rfl, _, _, rfl, rfl, _, rfl, cc, _, _, rfl, rfl, g1, ct, _, 0, _, rfl, rfl, g2 G, atI0, ?_⟩
    refine ⟨L, l, _, a + 1, arity i, bs, rfl, sa.sq, Nat.le_trans ar (by decide), hrows, fun G3 R e3 n3 rw3 => ?_⟩
    -- the place behind them
    refine ⟨_, rfl, _, rfl, R, rfl, ?_⟩
    obtain ⟨rs, r1, r2⟩ := id rw3
    have rl : (rs.map V.ref).length = bs.length := by rw [List.length_map, r2.len]
    refine ⟨⟨_, SqL.of r1⟩, fun F hF => ?_⟩
    refine lc_list (K := K) (a := R) (xs := rs.map V.ref) (fun j G' => Same G3 G' ∧ G' F = some (.lst (((bs.take j).map fun b : Bytes => (1 : Int) + (b.length : Int)).map V.int))) ⟨same_new hF, upd_same⟩ (fun j G' _ k => SqL.of (k.1 _ _ r1)) (fun j x G' hx k => ?_) (fun G4 k => ?_)
    · obtain ⟨r, hr, rfl⟩ := map_get hx
      obtain ⟨b, hb, hm⟩ := r2.get hr
      have jl := get_lt hb
      refine ⟨rfl, ?_⟩
      refine ⟨_, rfl, r, _, rfl, SqL.of (k.1 _ _ hm), _, _, rfl, rfl, ?_⟩
      refine ⟨_, k.2, ?_, same_upd k.1 hF, ?_⟩
      · rw [List.length_map, List.length_map, List.length_take]
        exact sz_lt (by omega)
      · rw [upd_same, take_more hb, List.map_append, List.map_append, List.length_map]
        rfl
    · obtain ⟨e4, hF4⟩ := k
      rw [rl, List.take_length] at hF4
      refine ⟨F, _, rfl, SqL.of hF4, ?_⟩
      rw [lens_sum]
      refine ⟨_, _, rfl, rfl, ?_⟩
      refine ⟨_, _, rfl, rfl, ?_⟩
      have e34 := same_trans e3 e4
      have hold4 := hold.same e34
      refine ⟨_, rfl, _, rfl, _, rfl, ?_⟩
      refine ⟨hd, R, T0, o, i, bs, c, rfl, hcn, hold4, rw3.ext (LamX.ExtN.of e4), tab_same tabG e34, fun G5 D fr tab5 hold5 nD hD => ?_⟩
      obtain ⟨dx4, v4, i4, _⟩ := id hold4.ex
      have hacc4 := e34 _ _ hacc
      have nT : T0 ≠ hd := fun z => by rw [z, i4] at hacc4; cases hacc4
      have hacc5 : G5 T0 = some (.lst (acc.map V.int)) := fr _ _ nT hacc4 (fun _ z => nomatch z)
      have nDT : D ≠ T0 := fun z => nD _ (z ▸ hacc4)
      have sa5 := (sa.same e34).fr ⟨_, _, _, i4⟩ fr
      generalize han : encode (Vasedc.step o c).2 = an at hD
      have hstep : VasedcNeutral.step o ([(i : Int)] :: bs.map intsOf) = ((Vasedc.step o c).1, an) := by rw [step_is hcall, han]
      have hall : acc ++ ((((an.length : Int) :: an) ++ PyFlat.told (PyFlat.played VasedcNeutral.step (Vasedc.step o c).1 cs))) = PyVasedc.answers l := by
        rw [← hall]
        show _ = acc ++ (((VasedcNeutral.step o ([(i : Int)] :: bs.map intsOf)).2.length : Int) :: (VasedcNeutral.step o ([(i : Int)] :: bs.map intsOf)).2 ++ PyFlat.told (PyFlat.played VasedcNeutral.step (VasedcNeutral.step o ([(i : Int)] :: bs.map intsOf)).1 cs))
        rw [hstep]
      have big : acc.length + 1 + an.length ≤ 10000000 := by
        have := congrArg List.length hall
        rw [List.length_append, List.length_append, List.length_cons] at this
        omega
      refine ⟨_, rfl, .inl ⟨rfl, _, SqL.of hacc5⟩, ?_⟩
      refine ⟨_, rfl, D, _, rfl, SqL.of hD, ?_⟩
      refine ⟨T0, _, _, rfl, rfl, hacc5, ?_, ?_⟩
      · rw [List.length_map]
        exact Nat.lt_of_lt_of_le (show acc.length < 10000000 by omega) (by decide)
      · rw [show (an.map V.int).length = an.length from List.length_map ..]
        generalize hG6 : upd G5 T0 (.lst (acc.map V.int ++ [V.int (an.length : Nat)])) = G6
        have hacc6 : G6 T0 = some (.lst ((acc ++ [(an.length : Int)]).map V.int)) := by rw [← hG6, upd_same, List.map_append]; rfl
        have hold6 : HoldAt A G6 hd T0 (Vasedc.step o c).1 := hG6 ▸ hold5.put
        have tab6 : LamX.TabS G6 A.tb qN := hG6 ▸ tab_put tab5 hacc5
        have sa6 : SqA K G6 L T0 (l.map V.int) := hG6 ▸ sa5.put
        have hD6 : G6 D = some (.lst (an.map V.int)) := by rw [← hG6, upd_ne nDT]; exact hD
        refine ⟨_, rfl, .inl ⟨rfl, _, SqL.of hacc6⟩, ?_⟩
        refine ⟨_, rfl, ?_⟩
        refine ⟨T0, D, _, _, rfl, rfl, hacc6, hD6, sz_of' (by rw [List.length_map, List.length_map, List.length_append, List.length_cons, List.length_nil]; omega), ?_⟩
        rw [← List.map_append]
        refine ⟨a + 1 + rowsLen (bs.map intsOf), some (.int (i : Int)), some (.ref R), some (.ref D), ?_, ⟨(Vasedc.step o c).1, acc ++ [(an.length : Int)] ++ an, cs, fu', sa6.put, tab_put tab6 hacc6, hold6.put, upd_same, rfl, ?_, fun x hx => hask x (List.mem_cons_of_mem _ hx), ?_⟩⟩
        · have e : ((a : Int) + (1 + (rowsLen (bs.map intsOf) : Int))) = ((a + 1 + rowsLen (bs.map intsOf) : Nat) : Int) := by omega
          show [some (V.ref L), some (V.ref hd), some (V.ref T0), some (V.int ((a : Int) + (1 + (rowsLen (bs.map intsOf) : Int)))), _, _, _, none] = _
          rw [e]
        · rw [List.drop_drop] at hcs
          exact hcs
        · rw [← hall]
          simp only [List.append_assoc, List.cons_append, List.nil_append]
  · have k : l.length ≤ a := by have := of_decide_eq_false k; omega
    rcases calls_more hcalls with ⟨_, rfl⟩ | ⟨_, _, _, _, _, _, _, z, _⟩
    · have hall : acc ++ [] = PyVasedc.answers l := hall
      rw [List.append_nil] at hall
      exact ⟨_, rfl, q G T0 (hall ▸ hacc)⟩
    · rw [List.drop_eq_nil_of_le k] at z
      cases z
end
end Lp
set_option maxRecDepth 100000
set_option maxHeartbeats 4000000
/-! What the head tells, by names. -/
namespace Lp
open PySem PySem.Spec PyProof.Rows L2
section
variable {K : PySem.W.Frag} {mg : Str → Option Value}
theorem clsE_ok {C : Addr} {bm : List Value} (h : clsE K C bm = true) : ∃ nm q N bs sn sub ab col dd k0 k1 k2 k3 k5, K.lookup C = some (excClassObj nm q C N bs bm true sn sub ab col dd k0 k1 k2 k3 k5 "Exception.__new__") := by
  unfold clsE at h
  split at h
  · rename_i t dd cd sl lk
    split at h
    · rename_i C' bm' k0 k1 k2 k3 n k5 hm hs
      obtain ⟨nm, bs, mro, ns, qn, hd, sn, sub, ab, col, del⟩ := cd
      simp only [Bool.and_eq_true, decide_eq_true_eq, Bool.not_eq_true'] at h
      obtain ⟨h1, h2, h3, h4, h5, h6⟩ := h
      dsimp only at hm
      subst h1 h2 h3 h4 h5 h6 hm
      have e : sl = #[k0, k1, k2, k3, some (.builtin "Exception.__new__"), k5] := Array.toList_inj.mp hs
      subst e
      exact ⟨nm, qn, ns, bs, sn, sub, ab, col, dd, k0, k1, k2, k3, k5, lk⟩
    · cases h
  · cases h
theorem noE_ok {x : Str} {fs : List Str} (h : noE K x fs = true) : ∀ f ∈ fs, PySem.W.findIn K (.ref (He.ga K x)) f = some none := fun f hf => He.eqO_ok (List.all_eq_true.mp h f hf)
theorem tupA_ok {a : Addr} {vs : List V} (h : tupA K a vs = true) (H : Hp) : SqT K H a vs := by
  unfold tupA at h
  split at h
  · rename_i t od its n sl lk
    obtain ⟨h1, h2⟩ := He.ba h
    obtain ⟨h3, h4⟩ := He.ba h2
    exact .inr ⟨_, its, n, lk, congrArg Value.type (of_decide_eq_true h1), rfl, of_decide_eq_true h3, He.relAll_ok h4⟩
  · cases h
theorem gv_int {x : Str} {i : Int} (h : ∃ t, mg x = some (.int i t)) : Gv mg x (.int i) := by
  obtain ⟨t, h⟩ := h
  exact ⟨_, h, t, rfl⟩
theorem gv_str {x z : Str} (h : ∃ t, mg x = some (.str z t)) : Gv mg x (.str z) := by
  obtain ⟨t, h⟩ := h
  exact ⟨_, h, t, rfl⟩
abbrev FnE (K : PySem.W.Frag) (x qual : Str) (st : Stmt) (p : He.Defn) : Prop := ∃ fd, FunD K x qual (defArgs st) (defBody st) (defScope st) [] [] (He.fAd K p) fd
abbrev BdE (x qual : Str) (st : Stmt) (ps : List Str) : Prop := ∀ (kV doc pm : Value) (an : Option Addr) (cdv ct : Value) (us : List Value), us.length = ps.length → bindArgs (PySem.W.fnOf x qual (defArgs st) (defBody st) (defScope st) .none kV doc pm an cdv ct) ⟨us, []⟩ = pure (ps.zip us)
theorem fun_of {x qual : Str} {st : Stmt} {ps : List Str} {p : He.Defn} (F : FnE K x qual st p) (hb : BdE x qual st ps) : ∃ fd, Fun K x qual st (He.fAd K p) fd ∧ Binds K fd ps [] := by
  obtain ⟨fd, ⟨⟨oc, od, dV, kV, doc, pm, an, cdv, ct, osl, e, lk, hc, hD, _⟩, kp⟩⟩ := F
  rcases hD with ⟨_, rfl⟩ | ⟨z, _⟩
  · refine ⟨fd, ⟨⟨oc, od, kV, doc, pm, an, cdv, ct, osl, e, lk, hc⟩, kp⟩, ?_⟩
    rw [e]
    exact .all (hb kV doc pm an cdv ct)
  · exact absurd rfl z
theorem dfn_mk {x : Str} {st : Stmt} {ps : List Str} (F : FnE K x x st (x, none)) (g : mg x = some (.ref (He.ga K x))) (hb : BdE x x st ps) : Dfn K mg x st ps := by
  obtain ⟨fd, h, b⟩ := fun_of F hb
  exact ⟨_, fd, h, g, b⟩
theorem ini_mk {C qual : Str} {st : Stmt} {ps : List Str} (F : FnE K "__init__" qual st (C, some "__init__")) (m : Mk K (He.ga K C) (He.ma K (He.ga K C) "__init__")) (hb : BdE "__init__" qual st ps) : Ini K (He.ga K C) qual st ps := by
  obtain ⟨fd, h, b⟩ := fun_of F hb
  exact ⟨_, fd, h, m, b⟩
theorem mth_mk {C m qual : Str} {st : Stmt} {ps : List Str} (F : FnE K m qual st (C, some m)) (hm : Meth K (He.ga K C) m (He.ma K (He.ga K C) m)) (hb : BdE m qual st ps) : Mth K (He.ga K C) m qual st ps := by
  obtain ⟨fd, h, b⟩ := fun_of F hb
  exact ⟨_, fd, h, hm, b⟩
theorem ext_mk {C qual : Str} {st : Stmt} {ps fs : List Str} {r : Option Str} (F : FnE K "__init__" qual st (C, some "__init__")) (e : exE K C r = true) (i : iniE K C = true) (g : mg C = some (.ref (He.ga K C))) (no : noE K C fs = true) (xf : xfB K (He.ga K C) = true) (hb : BdE "__init__" qual st ps) : ExT K mg C (He.ga K C) qual st ps fs := by
  obtain ⟨fd, h, b⟩ := fun_of F hb
  obtain ⟨e1, e⟩ := He.ba e
  obtain ⟨e2, e⟩ := He.ba e
  obtain ⟨e3, e⟩ := He.ba e
  obtain ⟨e4, e5⟩ := He.ba e
  obtain ⟨i1, i2⟩ := He.ba i
  have tl : tailE K r = PySem.ESX.exTail ∨ ∃ R, tailE K r = .ref R :: PySem.ESX.exTail := by
    cases r with
    | none => exact .inl rfl
    | some z => exact .inr ⟨_, rfl⟩
  exact ⟨⟨_, clsE_ok e1, tl, He.eqO_ok e2, of_decide_eq_true e3, of_decide_eq_true e4, e5⟩, ⟨_, fd, h, He.eqO_ok i1, of_decide_eq_true i2, b⟩, g, noE_ok no, xfB_ok xf⟩
theorem clt_mk {C m qual : Str} {st : Stmt} {ps : List Str} (F : FnE K m qual st (C, some m)) (e : clE K C m = true) (g : mg C = some (.ref (He.ga K C))) (hb : BdE m qual st ps) : ClT K mg C (He.ga K C) m qual st ps := by
  obtain ⟨fd, h, b⟩ := fun_of F hb
  obtain ⟨e1, e⟩ := He.ba e
  obtain ⟨e2, e3⟩ := He.ba e
  refine ⟨⟨_, fd, .type "type", h, ⟨e1, He.eqO_ok e2⟩, ?_, b⟩, g⟩
  split at e3
  · rename_i u hu
    rw [hu, of_decide_eq_true e3]
    rfl
  · cases e3
theorem near_mk {x : Str} {st : Stmt} {ps : List Str} (F : FnE K x x st (x, none)) (g : mg x = some (.ref (He.ga K x))) (hb : BdE x x st ps) :
    ∃ (f : Addr) (oc : Value) (od : Option Addr) (kV doc pm : Value) (an : Option Addr) (ct : Value) (osl : Array (Option Value)), K.lookup f = some ⟨oc, od, .func (PySem.W.fnOf x x (defArgs st) (defBody st) (defScope st) .none kV doc pm an (.ref (He.cT K (x, none)).1) ct), osl⟩ ∧ PySem.W.codeIn K (.ref (He.cT K (x, none)).1) x = true ∧
      mg x = some (.ref f) ∧ PySem.W.keepIn K (.ref f) = true ∧ Binds K (PySem.W.fnOf x x (defArgs st) (defBody st) (defScope st) .none kV doc pm an (.ref (He.cT K (x, none)).1) ct) ps [] := by
  obtain ⟨fd, ⟨⟨oc, od, dV, kV, doc, pm, an, cdv, ct, osl, e, lk, hc, hD, _⟩, kp⟩⟩ := F
  rcases hD with ⟨_, rfl⟩ | ⟨z, _⟩
  · obtain ⟨cd, rfl⟩ := He.codeIn_ref hc
    have ec : (He.cT K (x, none)).1 = cd := He.codeOf_eq lk (by rw [e])
    rw [ec]
    rw [e] at lk
    exact ⟨_, oc, od, kV, doc, pm, an, ct, osl, lk, hc, g, kp, .all (hb kV doc pm an _ ct)⟩
  · exact absurd rfl z
theorem dct_at {w : World} {a : Addr} {es : Array DictEntry} {n : Nat} {kvs : List (Str × He.Dv)} (D : KDict K w a es n) (vb : He.valsB K a kvs = true) {q : Str × He.Dv} (hq : q ∈ kvs) {f : Str} {b : Addr} (g : mg f = some (.ref b)) (e : q.2.v K = .ref b := by rfl) : ∃ f', mg f = some (.ref f') ∧ KDct K w a q.1 (.ref f') := by
  obtain ⟨u, h1, h2⟩ := He.valsB_ok vb hq
  rw [e] at h2
  exact ⟨b, g, es, n, u, D.at_, D.lit, h1, h2⟩
theorem call_at {a : Addr} {l : List (Nat × Nat × Str)} (h : callsE K a l = true) {q : Nat × Nat × Str} (hq : q ∈ l) (g : mg q.2.2 = some (.ref (He.ga K q.2.2))) : ∃ f t, mg q.2.2 = some (.ref f) ∧ KDctI K a (q.1 : Int) (.ref t) ∧ ∀ H, SqT K H t [nV q.2.1, .ref f] := by
  unfold callsE at h
  split at h
  · rename_i t es n sl lk
    obtain ⟨h1, h⟩ := He.ba h
    obtain ⟨h2, h⟩ := He.ba h
    obtain ⟨h3, h4⟩ := He.ba h
    have h5 := List.all_eq_true.mp h4 q hq
    unfold callE at h5
    split at h5
    · rename_i t' ht
      have e1 : t = "dict" := of_decide_eq_true h1
      have e2 : sl = #[] := Array.isEmpty_iff.mp h2
      subst e1 e2
      refine ⟨_, t', g, ⟨es, n, _, lk, fun e he => ?_, ht, rfl⟩, tupA_ok h5⟩
      have h6 := List.all_eq_true.mp h3 e (Array.mem_def.mp he)
      unfold intE at h6
      split at h6
      · rename_i j tk ek
        exact ⟨j, tk, ek, of_decide_eq_true h6⟩
      · cases h6
    · cases h5
  · cases h
end
theorem exs_at {K : PySem.W.Frag} (h : exL K = true) (i : Nat) {p : PySem.W.Frag → Bool} (e : exsL[i]? = some p) : p K = true := List.all_eq_true.mp h p (List.mem_of_getElem? e)
def adOf (K : PySem.W.Frag) : Ad := ⟨He.ga K "Change", He.ga K "Fault", He.ga K "ChangeNotPut", He.ga K "Refusal", He.ga K "NoScriptHeld", He.ga K "NotAText", He.ga K "NoScriptForPatch", He.ga K "TooMuch", He.ga K "Token", He.ga K "Command", He.ga K "Reader", He.ga K "Spot", He.ga K "Holder", (He.cT K ("nearest_to", none)).1, (He.cT K ("nearest_to", none)).2⟩
theorem txt_of {K : PySem.W.Frag} {w : World} {h : Heap} {mg : Str → Option Value} (X : K.In h) (G : h.Ns mainGlobals mg) (c : He.SaysX faL fnL tsL tfL exL w h K) : Txt K mg (adOf K) :=
  { b_len := He.free_ok X G (c.t.d.fact 0 (f := (.free "len")) rfl)
    b_max := He.free_ok X G (c.t.d.fact 1 (f := (.free "max")) rfl)
    b_min := He.free_ok X G (c.t.d.fact 2 (f := (.free "min")) rfl)
    b_ord := He.free_ok X G (c.t.d.fact 3 (f := (.free "ord")) rfl)
    b_abs := He.free_ok X G (c.t.d.fact 4 (f := (.free "abs")) rfl)
    b_sum := He.free_ok X G (c.t.d.fact 5 (f := (.free "sum")) rfl)
    b_isinstance := He.free_ok X G (c.t.d.fact 6 (f := (.free "isinstance")) rfl)
    b_range := He.free_ok X G (c.t.d.fact 7 (f := (.free "range")) rfl)
    b_reversed := He.free_ok X G (c.t.d.fact 8 (f := (.free "reversed")) rfl)
    b_enumerate := He.free_ok X G (c.t.d.fact 9 (f := (.free "enumerate")) rfl)
    b_int := He.free_ok X G (c.t.d.fact 10 (f := (.free "int")) rfl)
    c_LETTERS := gv_str (He.str_ok X G (c.t.d.fact 11 (f := (.str "LETTERS" "abcdefghijklmnopqrstuvwxyz")) rfl))
    c_FIRST_LETTER := gv_int (He.int_ok X G (c.t.d.fact 12 (f := (.int "FIRST_LETTER" 97)) rfl))
    c_LAST_LETTER := gv_int (He.int_ok X G (c.t.d.fact 13 (f := (.int "LAST_LETTER" 122)) rfl))
    c_LINE_END := gv_int (He.int_ok X G (c.t.d.fact 14 (f := (.int "LINE_END" 10)) rfl))
    c_KEPT := gv_int (He.int_ok X G (c.t.d.fact 15 (f := (.int "KEPT" 0)) rfl))
    c_TAKEN_OUT := gv_int (He.int_ok X G (c.t.d.fact 16 (f := (.int "TAKEN_OUT" 1)) rfl))
    c_PUT_IN := gv_int (He.int_ok X G (c.t.d.fact 17 (f := (.int "PUT_IN" 2)) rfl))
    c_MOST_AROUND := gv_int (He.int_ok X G (c.t.d.fact 18 (f := (.int "MOST_AROUND" 2)) rfl))
    c_MOST_BYTES := gv_int (He.int_ok X G (c.t.d.fact 19 (f := (.int "MOST_BYTES" 4096)) rfl))
    c_LONGEST_WORD := gv_int (He.int_ok X G (c.t.d.fact 20 (f := (.int "LONGEST_WORD" 8)) rfl))
    c_GREATEST_NUMBER := gv_int (He.int_ok X G (c.t.d.fact 21 (f := (.int "GREATEST_NUMBER" 1000000000)) rfl))
    c_MOST_DIGITS := gv_int (He.int_ok X G (c.t.d.fact 22 (f := (.int "MOST_DIGITS" 10)) rfl))
    c_BLANKS := ⟨_, (He.glo_ok X G (c.t.d.fact 23 (f := (.glo "BLANKS")) rfl)), He.tupB_ok (exs_at c.more 0 (p := fun K => He.tupB K "BLANKS" [.int 32, .int 9, .int 10]) rfl)⟩
    c_REMARK := gv_int (He.int_ok X G (c.t.d.fact 24 (f := (.int "REMARK" 35)) rfl))
    c_SEMICOLON := gv_int (He.int_ok X G (c.t.d.fact 25 (f := (.int "SEMICOLON" 59)) rfl))
    c_FIRST_DIGIT := gv_int (He.int_ok X G (c.t.d.fact 26 (f := (.int "FIRST_DIGIT" 48)) rfl))
    c_LAST_DIGIT := gv_int (He.int_ok X G (c.t.d.fact 27 (f := (.int "LAST_DIGIT" 57)) rfl))
    c_SIGN := gv_str (He.str_ok X G (c.t.d.fact 28 (f := (.str "SIGN" ";")) rfl))
    c_END := gv_str (He.str_ok X G (c.t.d.fact 29 (f := (.str "END" "")) rfl))
    c_OWN_WORDS := ⟨_, (He.glo_ok X G (c.t.d.fact 30 (f := (.glo "OWN_WORDS")) rfl)), He.tupB_ok (exs_at c.more 1 (p := fun K => He.tupB K "OWN_WORDS" [.str "if", .str "all", .str "line", .str "from", .str "to", .str "last", .str "has", .str "is", .str "not", .str "delete", .str "before", .str "after", .str "change", .str "swap", .str "first", .str "keep", .str "bring", .str "trade", .str "skip", .str "stop", .str "none"]) rfl)⟩
    c_MOST_COMMANDS := gv_int (He.int_ok X G (c.t.d.fact 31 (f := (.int "MOST_COMMANDS" 16)) rfl))
    c_MOST_NOTS := gv_int (He.int_ok X G (c.t.d.fact 32 (f := (.int "MOST_NOTS" 3)) rfl))
    c_GREATEST_LINE := gv_int (He.int_ok X G (c.t.d.fact 33 (f := (.int "GREATEST_LINE" 99)) rfl))
    c_GREATEST_SKIP := gv_int (He.int_ok X G (c.t.d.fact 34 (f := (.int "GREATEST_SKIP" 9)) rfl))
    c_BARE_ADDRESSES := ⟨_, (He.glo_ok X G (c.t.d.fact 35 (f := (.glo "BARE_ADDRESSES")) rfl)), He.tupB_ok (exs_at c.more 2 (p := fun K => He.tupB K "BARE_ADDRESSES" [.str "all", .str "last"]) rfl)⟩
    c_LETTERS_ADDRESSES := ⟨_, (He.glo_ok X G (c.t.d.fact 36 (f := (.glo "LETTERS_ADDRESSES")) rfl)), He.tupB_ok (exs_at c.more 3 (p := fun K => He.tupB K "LETTERS_ADDRESSES" [.str "has", .str "is"]) rfl)⟩
    c_BARE_DEEDS := ⟨_, (He.glo_ok X G (c.t.d.fact 37 (f := (.glo "BARE_DEEDS")) rfl)), He.tupB_ok (exs_at c.more 4 (p := fun K => He.tupB K "BARE_DEEDS" [.str "delete", .str "keep", .str "bring", .str "trade", .str "stop"]) rfl)⟩
    c_LETTERS_DEEDS := ⟨_, (He.glo_ok X G (c.t.d.fact 38 (f := (.glo "LETTERS_DEEDS")) rfl)), He.tupB_ok (exs_at c.more 5 (p := fun K => He.tupB K "LETTERS_DEEDS" [.str "before", .str "after", .str "change"]) rfl)⟩
    c_SWAP_DEEDS := ⟨_, (He.glo_ok X G (c.t.d.fact 39 (f := (.glo "SWAP_DEEDS")) rfl)), He.tupB_ok (exs_at c.more 6 (p := fun K => He.tupB K "SWAP_DEEDS" [.str "swap", .str "first"]) rfl)⟩
    c_MOST_LETTERS := gv_int (He.int_ok X G (c.t.d.fact 40 (f := (.int "MOST_LETTERS" 16)) rfl))
    c_MOST_LINES := gv_int (He.int_ok X G (c.t.d.fact 41 (f := (.int "MOST_LINES" 24)) rfl))
    c_MOST_RESULT_LINES := gv_int (He.int_ok X G (c.t.d.fact 42 (f := (.int "MOST_RESULT_LINES" 60)) rfl))
    d_is_letter := dfn_mk (c.t.d.def_ 0 (d := (dD "is_letter" 5)) rfl) (He.glo_ok X G (c.t.d.fact 43 (f := (.glo "is_letter")) rfl)) (fun _ _ _ _ _ _ us hl => match us, hl with | [_], _ => rfl)
    d_letter_of := dfn_mk (c.t.d.def_ 1 (d := (dD "letter_of" 6)) rfl) (He.glo_ok X G (c.t.d.fact 44 (f := (.glo "letter_of")) rfl)) (fun _ _ _ _ _ _ us hl => match us, hl with | [_], _ => rfl)
    d_bytes_of := dfn_mk (c.t.d.def_ 2 (d := (dD "bytes_of" 7)) rfl) (He.glo_ok X G (c.t.d.fact 45 (f := (.glo "bytes_of")) rfl)) (fun _ _ _ _ _ _ us hl => match us, hl with | [_], _ => rfl)
    d_least_patch := dfn_mk (c.t.d.def_ 3 (d := (dD "least_patch" 12)) rfl) (He.glo_ok X G (c.t.d.fact 46 (f := (.glo "least_patch")) rfl)) (fun _ _ _ _ _ _ us hl => match us, hl with | [_, _], _ => rfl)
    d_common_counts := dfn_mk (c.t.d.def_ 4 (d := (dD "common_counts" 13)) rfl) (He.glo_ok X G (c.t.d.fact 47 (f := (.glo "common_counts")) rfl)) (fun _ _ _ _ _ _ us hl => match us, hl with | [_, _], _ => rfl)
    d_counts_with := dfn_mk (c.t.d.def_ 5 (d := (dD "counts_with" 14)) rfl) (He.glo_ok X G (c.t.d.fact 48 (f := (.glo "counts_with")) rfl)) (fun _ _ _ _ _ _ us hl => match us, hl with | [_, _, _], _ => rfl)
    d_turned_round := dfn_mk (c.t.d.def_ 6 (d := (dD "turned_round" 15)) rfl) (He.glo_ok X G (c.t.d.fact 49 (f := (.glo "turned_round")) rfl)) (fun _ _ _ _ _ _ us hl => match us, hl with | [_], _ => rfl)
    d_other_way := dfn_mk (c.t.d.def_ 7 (d := (dD "other_way" 16)) rfl) (He.glo_ok X G (c.t.d.fact 50 (f := (.glo "other_way")) rfl)) (fun _ _ _ _ _ _ us hl => match us, hl with | [_], _ => rfl)
    d_one_behind_other := dfn_mk (c.t.d.def_ 8 (d := (dD "one_behind_other" 17)) rfl) (He.glo_ok X G (c.t.d.fact 51 (f := (.glo "one_behind_other")) rfl)) (fun _ _ _ _ _ _ us hl => match us, hl with | [_, _], _ => rfl)
    d_marks_of_both := dfn_mk (c.t.d.def_ 9 (d := (dD "marks_of_both" 18)) rfl) (He.glo_ok X G (c.t.d.fact 52 (f := (.glo "marks_of_both")) rfl)) (fun _ _ _ _ _ _ us hl => match us, hl with | [_, _], _ => rfl)
    d_cost_of := dfn_mk (c.t.d.def_ 10 (d := (dD "cost_of" 19)) rfl) (He.glo_ok X G (c.t.d.fact 53 (f := (.glo "cost_of")) rfl)) (fun _ _ _ _ _ _ us hl => match us, hl with | [_], _ => rfl)
    d_told_patch := dfn_mk (c.t.d.def_ 11 (d := (dD "told_patch" 20)) rfl) (He.glo_ok X G (c.t.d.fact 54 (f := (.glo "told_patch")) rfl)) (fun _ _ _ _ _ _ us hl => match us, hl with | [_], _ => rfl)
    d_changes_of := dfn_mk (c.t.d.def_ 12 (d := (dD "changes_of" 24)) rfl) (He.glo_ok X G (c.t.d.fact 55 (f := (.glo "changes_of")) rfl)) (fun _ _ _ _ _ _ us hl => match us, hl with | [_], _ => rfl)
    d_keep_behind := dfn_mk (c.t.d.def_ 13 (d := (dD "keep_behind" 25)) rfl) (He.glo_ok X G (c.t.d.fact 56 (f := (.glo "keep_behind")) rfl)) (fun _ _ _ _ _ _ us hl => match us, hl with | [_, _, _], _ => rfl)
    d_add_to := dfn_mk (c.t.d.def_ 14 (d := (dD "add_to" 26)) rfl) (He.glo_ok X G (c.t.d.fact 57 (f := (.glo "add_to")) rfl)) (fun _ _ _ _ _ _ us hl => match us, hl with | [_, _, _], _ => rfl)
    d_told_changes := dfn_mk (c.t.d.def_ 15 (d := (dD "told_changes" 27)) rfl) (He.glo_ok X G (c.t.d.fact 58 (f := (.glo "told_changes")) rfl)) (fun _ _ _ _ _ _ us hl => match us, hl with | [_], _ => rfl)
    d_put_to := dfn_mk (c.t.d.def_ 16 (d := (dD "put_to" 37)) rfl) (He.glo_ok X G (c.t.d.fact 59 (f := (.glo "put_to")) rfl)) (fun _ _ _ _ _ _ us hl => match us, hl with | [_, _], _ => rfl)
    d_places_of := dfn_mk (c.t.d.def_ 17 (d := (dD "places_of" 38)) rfl) (He.glo_ok X G (c.t.d.fact 60 (f := (.glo "places_of")) rfl)) (fun _ _ _ _ _ _ us hl => match us, hl with | [_, _, _], _ => rfl)
    d_nearest_to := dfn_mk (c.t.d.def_ 18 (d := (dD "nearest_to" 39)) rfl) (He.glo_ok X G (c.t.d.fact 61 (f := (.glo "nearest_to")) rfl)) (fun _ _ _ _ _ _ us hl => match us, hl with | [_, _], _ => rfl)
    d_is_letters := dfn_mk (c.t.d.def_ 19 (d := (dD "is_letters" 54)) rfl) (He.glo_ok X G (c.t.d.fact 62 (f := (.glo "is_letters")) rfl)) (fun _ _ _ _ _ _ us hl => match us, hl with | [_], _ => rfl)
    d_is_digit := dfn_mk (c.t.d.def_ 20 (d := (dD "is_digit" 55)) rfl) (He.glo_ok X G (c.t.d.fact 63 (f := (.glo "is_digit")) rfl)) (fun _ _ _ _ _ _ us hl => match us, hl with | [_], _ => rfl)
    d_tokens_of := dfn_mk (c.t.d.def_ 21 (d := (dD "tokens_of" 56)) rfl) (He.glo_ok X G (c.t.d.fact 64 (f := (.glo "tokens_of")) rfl)) (fun _ _ _ _ _ _ us hl => match us, hl with | [_], _ => rfl)
    d_past_blanks := dfn_mk (c.t.d.def_ 22 (d := (dD "past_blanks" 57)) rfl) (He.glo_ok X G (c.t.d.fact 65 (f := (.glo "past_blanks")) rfl)) (fun _ _ _ _ _ _ us hl => match us, hl with | [_, _], _ => rfl)
    d_token_end := dfn_mk (c.t.d.def_ 23 (d := (dD "token_end" 58)) rfl) (He.glo_ok X G (c.t.d.fact 66 (f := (.glo "token_end")) rfl)) (fun _ _ _ _ _ _ us hl => match us, hl with | [_, _], _ => rfl)
    d_run_end := dfn_mk (c.t.d.def_ 24 (d := (dD "run_end" 59)) rfl) (He.glo_ok X G (c.t.d.fact 67 (f := (.glo "run_end")) rfl)) (fun _ _ _ _ _ _ us hl => match us, hl with | [_, _, _], _ => rfl)
    d_token_value := dfn_mk (c.t.d.def_ 25 (d := (dD "token_value" 60)) rfl) (He.glo_ok X G (c.t.d.fact 68 (f := (.glo "token_value")) rfl)) (fun _ _ _ _ _ _ us hl => match us, hl with | [_, _, _], _ => rfl)
    d_word_value := dfn_mk (c.t.d.def_ 26 (d := (dD "word_value" 61)) rfl) (He.glo_ok X G (c.t.d.fact 69 (f := (.glo "word_value")) rfl)) (fun _ _ _ _ _ _ us hl => match us, hl with | [_, _, _], _ => rfl)
    d_number_value := dfn_mk (c.t.d.def_ 27 (d := (dD "number_value" 62)) rfl) (He.glo_ok X G (c.t.d.fact 70 (f := (.glo "number_value")) rfl)) (fun _ _ _ _ _ _ us hl => match us, hl with | [_, _, _], _ => rfl)
    d_commands_of := dfn_mk (c.t.d.def_ 28 (d := (dD "commands_of" 75)) rfl) (He.glo_ok X G (c.t.d.fact 71 (f := (.glo "commands_of")) rfl)) (fun _ _ _ _ _ _ us hl => match us, hl with | [_], _ => rfl)
    d_read_command := dfn_mk (c.t.d.def_ 29 (d := (dD "read_command" 76)) rfl) (He.glo_ok X G (c.t.d.fact 72 (f := (.glo "read_command")) rfl)) (fun _ _ _ _ _ _ us hl => match us, hl with | [_], _ => rfl)
    d_read_address := dfn_mk (c.t.d.def_ 30 (d := (dD "read_address" 77)) rfl) (He.glo_ok X G (c.t.d.fact 73 (f := (.glo "read_address")) rfl)) (fun _ _ _ _ _ _ us hl => match us, hl with | [_], _ => rfl)
    d_read_plain_address := dfn_mk (c.t.d.def_ 31 (d := (dD "read_plain_address" 78)) rfl) (He.glo_ok X G (c.t.d.fact 74 (f := (.glo "read_plain_address")) rfl)) (fun _ _ _ _ _ _ us hl => match us, hl with | [_], _ => rfl)
    d_read_deed := dfn_mk (c.t.d.def_ 32 (d := (dD "read_deed" 79)) rfl) (He.glo_ok X G (c.t.d.fact 75 (f := (.glo "read_deed")) rfl)) (fun _ _ _ _ _ _ us hl => match us, hl with | [_], _ => rfl)
    d_read_letters_or_none := dfn_mk (c.t.d.def_ 33 (d := (dD "read_letters_or_none" 80)) rfl) (He.glo_ok X G (c.t.d.fact 76 (f := (.glo "read_letters_or_none")) rfl)) (fun _ _ _ _ _ _ us hl => match us, hl with | [_], _ => rfl)
    d_numbered_script := dfn_mk (c.t.d.def_ 34 (d := (dD "numbered_script" 82)) rfl) (He.glo_ok X G (c.t.d.fact 77 (f := (.glo "numbered_script")) rfl)) (fun _ _ _ _ _ _ us hl => match us, hl with | [_], _ => rfl)
    d_command_to_put_in := dfn_mk (c.t.d.def_ 35 (d := (dD "command_to_put_in" 83)) rfl) (He.glo_ok X G (c.t.d.fact 78 (f := (.glo "command_to_put_in")) rfl)) (fun _ _ _ _ _ _ us hl => match us, hl with | [_, _], _ => rfl)
    d_told_script := dfn_mk (c.t.d.def_ 36 (d := (dD "told_script" 84)) rfl) (He.glo_ok X G (c.t.d.fact 79 (f := (.glo "told_script")) rfl)) (fun _ _ _ _ _ _ us hl => match us, hl with | [_], _ => rfl)
    d_lines_of := dfn_mk (c.t.d.def_ 37 (d := (dD "lines_of" 88)) rfl) (He.glo_ok X G (c.t.d.fact 80 (f := (.glo "lines_of")) rfl)) (fun _ _ _ _ _ _ us hl => match us, hl with | [_], _ => rfl)
    d_told_text := dfn_mk (c.t.d.def_ 38 (d := (dD "told_text" 89)) rfl) (He.glo_ok X G (c.t.d.fact 81 (f := (.glo "told_text")) rfl)) (fun _ _ _ _ _ _ us hl => match us, hl with | [_], _ => rfl)
    d_result_of := dfn_mk (c.t.d.def_ 39 (d := (dD "result_of" 93)) rfl) (He.glo_ok X G (c.t.d.fact 82 (f := (.glo "result_of")) rfl)) (fun _ _ _ _ _ _ us hl => match us, hl with | [_, _], _ => rfl)
    d_go_through := dfn_mk (c.t.d.def_ 40 (d := (dD "go_through" 94)) rfl) (He.glo_ok X G (c.t.d.fact 83 (f := (.glo "go_through")) rfl)) (fun _ _ _ _ _ _ us hl => match us, hl with | [_, _], _ => rfl)
    d_lines_from := dfn_mk (c.t.d.def_ 41 (d := (dD "lines_from" 95)) rfl) (He.glo_ok X G (c.t.d.fact 84 (f := (.glo "lines_from")) rfl)) (fun _ _ _ _ _ _ us hl => match us, hl with | [_], _ => rfl)
    d_holds := dfn_mk (c.t.d.def_ 42 (d := (dD "holds" 96)) rfl) (He.glo_ok X G (c.t.d.fact 85 (f := (.glo "holds")) rfl)) (fun _ _ _ _ _ _ us hl => match us, hl with | [_, _], _ => rfl)
    d_set_swapped := dfn_mk (c.t.d.def_ 43 (d := (dD "set_swapped" 97)) rfl) (He.glo_ok X G (c.t.d.fact 86 (f := (.glo "set_swapped")) rfl)) (fun _ _ _ _ _ _ us hl => match us, hl with | [_, _], _ => rfl)
    d_do_delete := dfn_mk (c.t.d.def_ 44 (d := (dD "do_delete" 98)) rfl) (He.glo_ok X G (c.t.d.fact 87 (f := (.glo "do_delete")) rfl)) (fun _ _ _ _ _ _ us hl => match us, hl with | [_, _], _ => rfl)
    d_do_stop := dfn_mk (c.t.d.def_ 45 (d := (dD "do_stop" 99)) rfl) (He.glo_ok X G (c.t.d.fact 88 (f := (.glo "do_stop")) rfl)) (fun _ _ _ _ _ _ us hl => match us, hl with | [_, _], _ => rfl)
    d_do_before := dfn_mk (c.t.d.def_ 46 (d := (dD "do_before" 100)) rfl) (He.glo_ok X G (c.t.d.fact 89 (f := (.glo "do_before")) rfl)) (fun _ _ _ _ _ _ us hl => match us, hl with | [_, _], _ => rfl)
    d_do_after := dfn_mk (c.t.d.def_ 47 (d := (dD "do_after" 101)) rfl) (He.glo_ok X G (c.t.d.fact 90 (f := (.glo "do_after")) rfl)) (fun _ _ _ _ _ _ us hl => match us, hl with | [_, _], _ => rfl)
    d_do_bring := dfn_mk (c.t.d.def_ 48 (d := (dD "do_bring" 102)) rfl) (He.glo_ok X G (c.t.d.fact 91 (f := (.glo "do_bring")) rfl)) (fun _ _ _ _ _ _ us hl => match us, hl with | [_, _], _ => rfl)
    d_do_change := dfn_mk (c.t.d.def_ 49 (d := (dD "do_change" 103)) rfl) (He.glo_ok X G (c.t.d.fact 92 (f := (.glo "do_change")) rfl)) (fun _ _ _ _ _ _ us hl => match us, hl with | [_, _], _ => rfl)
    d_do_swap := dfn_mk (c.t.d.def_ 50 (d := (dD "do_swap" 104)) rfl) (He.glo_ok X G (c.t.d.fact 93 (f := (.glo "do_swap")) rfl)) (fun _ _ _ _ _ _ us hl => match us, hl with | [_, _], _ => rfl)
    d_do_first := dfn_mk (c.t.d.def_ 51 (d := (dD "do_first" 105)) rfl) (He.glo_ok X G (c.t.d.fact 94 (f := (.glo "do_first")) rfl)) (fun _ _ _ _ _ _ us hl => match us, hl with | [_, _], _ => rfl)
    d_do_keep := dfn_mk (c.t.d.def_ 52 (d := (dD "do_keep" 106)) rfl) (He.glo_ok X G (c.t.d.fact 95 (f := (.glo "do_keep")) rfl)) (fun _ _ _ _ _ _ us hl => match us, hl with | [_, _], _ => rfl)
    d_do_trade := dfn_mk (c.t.d.def_ 53 (d := (dD "do_trade" 107)) rfl) (He.glo_ok X G (c.t.d.fact 96 (f := (.glo "do_trade")) rfl)) (fun _ _ _ _ _ _ us hl => match us, hl with | [_, _], _ => rfl)
    d_do_skip := dfn_mk (c.t.d.def_ 54 (d := (dD "do_skip" 108)) rfl) (He.glo_ok X G (c.t.d.fact 97 (f := (.glo "do_skip")) rfl)) (fun _ _ _ _ _ _ us hl => match us, hl with | [_, _], _ => rfl)
    d_call_load := dfn_mk (c.t.d.def_ 55 (d := (dD "call_load" 112)) rfl) (He.glo_ok X G (c.t.d.fact 98 (f := (.glo "call_load")) rfl)) (fun _ _ _ _ _ _ us hl => match us, hl with | [_, _], _ => rfl)
    d_call_diff := dfn_mk (c.t.d.def_ 56 (d := (dD "call_diff" 113)) rfl) (He.glo_ok X G (c.t.d.fact 99 (f := (.glo "call_diff")) rfl)) (fun _ _ _ _ _ _ us hl => match us, hl with | [_, _], _ => rfl)
    d_call_patch := dfn_mk (c.t.d.def_ 57 (d := (dD "call_patch" 114)) rfl) (He.glo_ok X G (c.t.d.fact 100 (f := (.glo "call_patch")) rfl)) (fun _ _ _ _ _ _ us hl => match us, hl with | [_, _], _ => rfl)
    d_call_script := dfn_mk (c.t.d.def_ 58 (d := (dD "call_script" 115)) rfl) (He.glo_ok X G (c.t.d.fact 101 (f := (.glo "call_script")) rfl)) (fun _ _ _ _ _ _ us hl => match us, hl with | [_, _], _ => rfl)
    d_call_undo := dfn_mk (c.t.d.def_ 59 (d := (dD "call_undo" 116)) rfl) (He.glo_ok X G (c.t.d.fact 102 (f := (.glo "call_undo")) rfl)) (fun _ _ _ _ _ _ us hl => match us, hl with | [_, _], _ => rfl)
    d_call_drift := dfn_mk (c.t.d.def_ 60 (d := (dD "call_drift" 117)) rfl) (He.glo_ok X G (c.t.d.fact 103 (f := (.glo "call_drift")) rfl)) (fun _ _ _ _ _ _ us hl => match us, hl with | [_, _], _ => rfl)
    d_call_both := dfn_mk (c.t.d.def_ 61 (d := (dD "call_both" 118)) rfl) (He.glo_ok X G (c.t.d.fact 104 (f := (.glo "call_both")) rfl)) (fun _ _ _ _ _ _ us hl => match us, hl with | [_, _], _ => rfl)
    d_call_hunks := dfn_mk (c.t.d.def_ 62 (d := (dD "call_hunks" 119)) rfl) (He.glo_ok X G (c.t.d.fact 105 (f := (.glo "call_hunks")) rfl)) (fun _ _ _ _ _ _ us hl => match us, hl with | [_, _], _ => rfl)
    d_patch_between := dfn_mk (c.t.d.def_ 63 (d := (dD "patch_between" 120)) rfl) (He.glo_ok X G (c.t.d.fact 106 (f := (.glo "patch_between")) rfl)) (fun _ _ _ _ _ _ us hl => match us, hl with | [_], _ => rfl)
    d_patch_by_run := dfn_mk (c.t.d.def_ 64 (d := (dD "patch_by_run" 121)) rfl) (He.glo_ok X G (c.t.d.fact 107 (f := (.glo "patch_by_run")) rfl)) (fun _ _ _ _ _ _ us hl => match us, hl with | [_, _], _ => rfl)
    d_answers := dfn_mk (c.t.d.def_ 65 (d := (dD "answers" 123)) rfl) (He.glo_ok X G (c.t.d.fact 108 (f := (.glo "answers")) rfl)) (fun _ _ _ _ _ _ us hl => match us, hl with | [_], _ => rfl)
    d_rows_from := dfn_mk (c.t.d.def_ 66 (d := (dD "rows_from" 124)) rfl) (He.glo_ok X G (c.t.d.fact 109 (f := (.glo "rows_from")) rfl)) (fun _ _ _ _ _ _ us hl => match us, hl with | [_, _, _], _ => rfl)
    d_answer_of := dfn_mk (c.t.d.def_ 67 (d := (dD "answer_of" 125)) rfl) (He.glo_ok X G (c.t.d.fact 110 (f := (.glo "answer_of")) rfl)) (fun _ _ _ _ _ _ us hl => match us, hl with | [_, _, _], _ => rfl)
    q_Change := ⟨He.cls_ok (c.t.d.fact 111 (f := (.cls "Change")) rfl), noE_ok (exs_at c.more 7 (p := fun K => noE K "Change" ["place", "before", "taken_out", "put_in", "behind"]) rfl), (He.glo_ok X G (c.t.d.fact 112 (f := (.glo "Change")) rfl))⟩
    i_Change := ini_mk (c.t.d.def_ 68 (d := (dM "Change" "__init__" "Change.__init__" 23 0)) rfl) (He.mkr_ok (c.t.d.fact 113 (f := (.mkr "Change")) rfl)) (fun _ _ _ _ _ _ us hl => match us, hl with | [_, _, _], _ => rfl)
    q_Token := ⟨He.cls_ok (c.t.d.fact 114 (f := (.cls "Token")) rfl), noE_ok (exs_at c.more 8 (p := fun K => noE K "Token" ["value", "place"]) rfl), (He.glo_ok X G (c.t.d.fact 115 (f := (.glo "Token")) rfl))⟩
    i_Token := ini_mk (c.t.d.def_ 69 (d := (dM "Token" "__init__" "Token.__init__" 53 0)) rfl) (He.mkr_ok (c.t.d.fact 116 (f := (.mkr "Token")) rfl)) (fun _ _ _ _ _ _ us hl => match us, hl with | [_, _, _], _ => rfl)
    q_Command := ⟨He.cls_ok (c.t.d.fact 117 (f := (.cls "Command")) rfl), noE_ok (exs_at c.more 9 (p := fun K => noE K "Command" ["address", "deed"]) rfl), (He.glo_ok X G (c.t.d.fact 118 (f := (.glo "Command")) rfl))⟩
    i_Command := ini_mk (c.t.d.def_ 70 (d := (dM "Command" "__init__" "Command.__init__" 73 0)) rfl) (He.mkr_ok (c.t.d.fact 119 (f := (.mkr "Command")) rfl)) (fun _ _ _ _ _ _ us hl => match us, hl with | [_, _, _], _ => rfl)
    q_Reader := ⟨He.cls_ok (c.t.d.fact 120 (f := (.cls "Reader")) rfl), noE_ok (exs_at c.more 10 (p := fun K => noE K "Reader" ["tokens", "taken"]) rfl), (He.glo_ok X G (c.t.d.fact 121 (f := (.glo "Reader")) rfl))⟩
    i_Reader := ini_mk (c.t.d.def_ 71 (d := (dM "Reader" "__init__" "Reader.__init__" 74 0)) rfl) (He.mkr_ok (c.t.d.fact 122 (f := (.mkr "Reader")) rfl)) (fun _ _ _ _ _ _ us hl => match us, hl with | [_, _], _ => rfl)
    m_following := mth_mk (c.t.d.def_ 72 (d := (dM "Reader" "following" "Reader.following" 74 1)) rfl) (He.meth_ok (c.t.d.fact 123 (f := (.meth "Reader" "following")) rfl)) (fun _ _ _ _ _ _ us hl => match us, hl with | [_], _ => rfl)
    m_take := mth_mk (c.t.d.def_ 73 (d := (dM "Reader" "take" "Reader.take" 74 2)) rfl) (He.meth_ok (c.t.d.fact 124 (f := (.meth "Reader" "take")) rfl)) (fun _ _ _ _ _ _ us hl => match us, hl with | [_], _ => rfl)
    m_take_just := mth_mk (c.t.d.def_ 74 (d := (dM "Reader" "take_just" "Reader.take_just" 74 3)) rfl) (He.meth_ok (c.t.d.fact 125 (f := (.meth "Reader" "take_just")) rfl)) (fun _ _ _ _ _ _ us hl => match us, hl with | [_, _], _ => rfl)
    m_take_number := mth_mk (c.t.d.def_ 75 (d := (dM "Reader" "take_number" "Reader.take_number" 74 4)) rfl) (He.meth_ok (c.t.d.fact 126 (f := (.meth "Reader" "take_number")) rfl)) (fun _ _ _ _ _ _ us hl => match us, hl with | [_, _, _], _ => rfl)
    m_take_letters := mth_mk (c.t.d.def_ 76 (d := (dM "Reader" "take_letters" "Reader.take_letters" 74 5)) rfl) (He.meth_ok (c.t.d.fact 127 (f := (.meth "Reader" "take_letters")) rfl)) (fun _ _ _ _ _ _ us hl => match us, hl with | [_], _ => rfl)
    q_Spot := ⟨He.cls_ok (c.t.d.fact 128 (f := (.cls "Spot")) rfl), noE_ok (exs_at c.more 11 (p := fun K => noE K "Spot" ["line", "number", "is_last", "held", "ahead", "behind", "deleted", "ended", "left_out"]) rfl), (He.glo_ok X G (c.t.d.fact 129 (f := (.glo "Spot")) rfl))⟩
    i_Spot := ini_mk (c.t.d.def_ 77 (d := (dM "Spot" "__init__" "Spot.__init__" 92 0)) rfl) (He.mkr_ok (c.t.d.fact 130 (f := (.mkr "Spot")) rfl)) (fun _ _ _ _ _ _ us hl => match us, hl with | [_, _, _, _, _], _ => rfl)
    q_Holder := ⟨He.cls_ok (c.t.d.fact 131 (f := (.cls "Holder")) rfl), noE_ok (exs_at c.more 12 (p := fun K => noE K "Holder" ["commands"]) rfl), (He.glo_ok X G (c.t.d.fact 132 (f := (.glo "Holder")) rfl))⟩
    i_Holder := ini_mk (c.t.d.def_ 78 (d := (dM "Holder" "__init__" "Holder.__init__" 111 0)) rfl) (He.mkr_ok (c.t.d.fact 133 (f := (.mkr "Holder")) rfl)) (fun _ _ _ _ _ _ us hl => match us, hl with | [_], _ => rfl)
    x_Fault := ext_mk (c.t.d.def_ 79 (d := (dM "Fault" "__init__" "Fault.__init__" 29 0)) rfl) (exs_at c.more 13 (p := fun K => exE K "Fault" none) rfl) (exs_at c.more 14 (p := fun K => iniE K "Fault") rfl) (He.glo_ok X G (c.t.d.fact 134 (f := (.glo "Fault")) rfl)) (exs_at c.more 15 (p := fun K => noE K "Fault" ["code", "place"]) rfl) (exs_at c.more 16 (p := fun K => xfB K (He.ga K "Fault")) rfl) (fun _ _ _ _ _ _ us hl => match us, hl with | [_, _, _], _ => rfl)
    x_ChangeNotPut := ext_mk (c.t.d.def_ 80 (d := (dM "ChangeNotPut" "__init__" "ChangeNotPut.__init__" 30 0)) rfl) (exs_at c.more 17 (p := fun K => exE K "ChangeNotPut" none) rfl) (exs_at c.more 18 (p := fun K => iniE K "ChangeNotPut") rfl) (He.glo_ok X G (c.t.d.fact 135 (f := (.glo "ChangeNotPut")) rfl)) (exs_at c.more 19 (p := fun K => noE K "ChangeNotPut" ["number"]) rfl) (exs_at c.more 20 (p := fun K => xfB K (He.ga K "ChangeNotPut")) rfl) (fun _ _ _ _ _ _ us hl => match us, hl with | [_, _], _ => rfl)
    x_Refusal := ext_mk (c.t.d.def_ 81 (d := (dM "Refusal" "__init__" "Refusal.__init__" 31 0)) rfl) (exs_at c.more 21 (p := fun K => exE K "Refusal" none) rfl) (exs_at c.more 22 (p := fun K => iniE K "Refusal") rfl) (He.glo_ok X G (c.t.d.fact 136 (f := (.glo "Refusal")) rfl)) (exs_at c.more 23 (p := fun K => noE K "Refusal" ["number"]) rfl) (exs_at c.more 24 (p := fun K => xfB K (He.ga K "Refusal")) rfl) (fun _ _ _ _ _ _ us hl => match us, hl with | [_, _], _ => rfl)
    r_Refusal := clt_mk (c.t.d.def_ 81 (d := (dM "Refusal" "__init__" "Refusal.__init__" 31 0)) rfl) (exs_at c.more 25 (p := fun K => clE K "Refusal" "__init__") rfl) (He.glo_ok X G (c.t.d.fact 136 (f := (.glo "Refusal")) rfl)) (fun _ _ _ _ _ _ us hl => match us, hl with | [_, _], _ => rfl)
    x_NoScriptHeld := ext_mk (c.t.d.def_ 82 (d := (dM "NoScriptHeld" "__init__" "NoScriptHeld.__init__" 32 0)) rfl) (exs_at c.more 26 (p := fun K => exE K "NoScriptHeld" (some "Refusal")) rfl) (exs_at c.more 27 (p := fun K => iniE K "NoScriptHeld") rfl) (He.glo_ok X G (c.t.d.fact 137 (f := (.glo "NoScriptHeld")) rfl)) (exs_at c.more 28 (p := fun K => noE K "NoScriptHeld" ["number"]) rfl) (exs_at c.more 29 (p := fun K => xfB K (He.ga K "NoScriptHeld")) rfl) (fun _ _ _ _ _ _ us hl => match us, hl with | [_], _ => rfl)
    x_NotAText := ext_mk (c.t.d.def_ 83 (d := (dM "NotAText" "__init__" "NotAText.__init__" 33 0)) rfl) (exs_at c.more 30 (p := fun K => exE K "NotAText" (some "Refusal")) rfl) (exs_at c.more 31 (p := fun K => iniE K "NotAText") rfl) (He.glo_ok X G (c.t.d.fact 138 (f := (.glo "NotAText")) rfl)) (exs_at c.more 32 (p := fun K => noE K "NotAText" ["number"]) rfl) (exs_at c.more 33 (p := fun K => xfB K (He.ga K "NotAText")) rfl) (fun _ _ _ _ _ _ us hl => match us, hl with | [_], _ => rfl)
    x_NoScriptForPatch := ext_mk (c.t.d.def_ 84 (d := (dM "NoScriptForPatch" "__init__" "NoScriptForPatch.__init__" 34 0)) rfl) (exs_at c.more 34 (p := fun K => exE K "NoScriptForPatch" (some "Refusal")) rfl) (exs_at c.more 35 (p := fun K => iniE K "NoScriptForPatch") rfl) (He.glo_ok X G (c.t.d.fact 139 (f := (.glo "NoScriptForPatch")) rfl)) (exs_at c.more 36 (p := fun K => noE K "NoScriptForPatch" ["number"]) rfl) (exs_at c.more 37 (p := fun K => xfB K (He.ga K "NoScriptForPatch")) rfl) (fun _ _ _ _ _ _ us hl => match us, hl with | [_], _ => rfl)
    x_TooMuch := ext_mk (c.t.d.def_ 85 (d := (dM "TooMuch" "__init__" "TooMuch.__init__" 35 0)) rfl) (exs_at c.more 38 (p := fun K => exE K "TooMuch" (some "Refusal")) rfl) (exs_at c.more 39 (p := fun K => iniE K "TooMuch") rfl) (He.glo_ok X G (c.t.d.fact 140 (f := (.glo "TooMuch")) rfl)) (exs_at c.more 40 (p := fun K => noE K "TooMuch" ["number"]) rfl) (exs_at c.more 41 (p := fun K => xfB K (He.ga K "TooMuch")) rfl) (fun _ _ _ _ _ _ us hl => match us, hl with | [_], _ => rfl)
    n_near := near_mk (c.t.d.def_ 18 (d := (dD "nearest_to" 39)) rfl) (He.glo_ok X G (c.t.d.fact 61 (f := (.glo "nearest_to")) rfl)) (fun _ _ _ _ _ _ us hl => match us, hl with | [_, _], _ => rfl)
    e_fa := He.exm_ok (c.t.d.fact 141 (f := (.exm "Fault" "Fault" true)) rfl)
    e_np := He.exm_ok (c.t.d.fact 142 (f := (.exm "ChangeNotPut" "ChangeNotPut" true)) rfl)
    e_ns := He.exm_ok (c.t.d.fact 143 (f := (.exm "NoScriptHeld" "Refusal" true)) rfl)
    e_nt := He.exm_ok (c.t.d.fact 144 (f := (.exm "NotAText" "Refusal" true)) rfl)
    e_nn := He.exm_ok (c.t.d.fact 145 (f := (.exm "NoScriptForPatch" "Refusal" true)) rfl)
    e_tm := He.exm_ok (c.t.d.fact 146 (f := (.exm "TooMuch" "Refusal" true)) rfl)
    n_nbk := (exs_at c.more 42 (p := fun K => PySem.W.nsOkIn K cStatics) rfl)
    n_nb := He.eqO_ok (exs_at c.more 43 (p := fun K => He.eqO (PySem.W.nsIn K cStatics sharingNotToldKey) (some none)) rfl) }
theorem dcts_of {K : PySem.W.Frag} {w : World} {h : Heap} {mg : Str → Option Value} (X : K.In h) (G : h.Ns mainGlobals mg) (c : He.SaysX faL fnL tsL tfL exL w h K) : Dcts K mg w := by
  refine ⟨He.ga K "DEEDS", (He.glo_ok X G (c.t.d.fact 147 (f := (.glo "DEEDS")) rfl)), fun x hx => ?_⟩
  obtain ⟨es, n, kd⟩ := c.t.tab 0 (t := tD) rfl
  have vb := (exs_at c.more 44 (p := fun K => He.valsB K (He.ga K "DEEDS") [("delete", .glo "do_delete"), ("stop", .glo "do_stop"), ("before", .glo "do_before"), ("after", .glo "do_after"), ("bring", .glo "do_bring"), ("change", .glo "do_change"), ("swap", .glo "do_swap"), ("first", .glo "do_first"), ("keep", .glo "do_keep"), ("trade", .glo "do_trade"), ("skip", .glo "do_skip")]) rfl)
  simp only [List.mem_cons, List.not_mem_nil, or_false] at hx
  rcases hx with rfl | rfl | rfl | rfl | rfl | rfl | rfl | rfl | rfl | rfl | rfl
  · exact dct_at kd vb (q := ("delete", .glo "do_delete")) (List.mem_of_getElem? (i := 0) rfl) (He.glo_ok X G (c.t.d.fact 87 (f := (.glo "do_delete")) rfl))
  · exact dct_at kd vb (q := ("stop", .glo "do_stop")) (List.mem_of_getElem? (i := 1) rfl) (He.glo_ok X G (c.t.d.fact 88 (f := (.glo "do_stop")) rfl))
  · exact dct_at kd vb (q := ("before", .glo "do_before")) (List.mem_of_getElem? (i := 2) rfl) (He.glo_ok X G (c.t.d.fact 89 (f := (.glo "do_before")) rfl))
  · exact dct_at kd vb (q := ("after", .glo "do_after")) (List.mem_of_getElem? (i := 3) rfl) (He.glo_ok X G (c.t.d.fact 90 (f := (.glo "do_after")) rfl))
  · exact dct_at kd vb (q := ("bring", .glo "do_bring")) (List.mem_of_getElem? (i := 4) rfl) (He.glo_ok X G (c.t.d.fact 91 (f := (.glo "do_bring")) rfl))
  · exact dct_at kd vb (q := ("change", .glo "do_change")) (List.mem_of_getElem? (i := 5) rfl) (He.glo_ok X G (c.t.d.fact 92 (f := (.glo "do_change")) rfl))
  · exact dct_at kd vb (q := ("swap", .glo "do_swap")) (List.mem_of_getElem? (i := 6) rfl) (He.glo_ok X G (c.t.d.fact 93 (f := (.glo "do_swap")) rfl))
  · exact dct_at kd vb (q := ("first", .glo "do_first")) (List.mem_of_getElem? (i := 7) rfl) (He.glo_ok X G (c.t.d.fact 94 (f := (.glo "do_first")) rfl))
  · exact dct_at kd vb (q := ("keep", .glo "do_keep")) (List.mem_of_getElem? (i := 8) rfl) (He.glo_ok X G (c.t.d.fact 95 (f := (.glo "do_keep")) rfl))
  · exact dct_at kd vb (q := ("trade", .glo "do_trade")) (List.mem_of_getElem? (i := 9) rfl) (He.glo_ok X G (c.t.d.fact 96 (f := (.glo "do_trade")) rfl))
  · exact dct_at kd vb (q := ("skip", .glo "do_skip")) (List.mem_of_getElem? (i := 10) rfl) (He.glo_ok X G (c.t.d.fact 97 (f := (.glo "do_skip")) rfl))
theorem dctc_of {K : PySem.W.Frag} {w : World} {h : Heap} {mg : Str → Option Value} (X : K.In h) (G : h.Ns mainGlobals mg) (c : He.SaysX faL fnL tsL tfL exL w h K) : DctC K mg := by
  refine ⟨He.ga K "CALLS", (He.glo_ok X G (c.t.d.fact 148 (f := (.glo "CALLS")) rfl)), fun x hx => ?_⟩
  have vb := (exs_at c.more 45 (p := fun K => callsE K (He.ga K "CALLS") [(0, 1, "call_load"), (1, 2, "call_diff"), (2, 1, "call_patch"), (3, 2, "call_script"), (4, 1, "call_undo"), (5, 3, "call_drift"), (6, 3, "call_both"), (7, 2, "call_hunks")]) rfl)
  simp only [List.mem_cons, List.not_mem_nil, or_false] at hx
  rcases hx with rfl | rfl | rfl | rfl | rfl | rfl | rfl | rfl
  · exact call_at vb (q := (0, 1, "call_load")) (List.mem_of_getElem? (i := 0) rfl) (He.glo_ok X G (c.t.d.fact 98 (f := (.glo "call_load")) rfl))
  · exact call_at vb (q := (1, 2, "call_diff")) (List.mem_of_getElem? (i := 1) rfl) (He.glo_ok X G (c.t.d.fact 99 (f := (.glo "call_diff")) rfl))
  · exact call_at vb (q := (2, 1, "call_patch")) (List.mem_of_getElem? (i := 2) rfl) (He.glo_ok X G (c.t.d.fact 100 (f := (.glo "call_patch")) rfl))
  · exact call_at vb (q := (3, 2, "call_script")) (List.mem_of_getElem? (i := 3) rfl) (He.glo_ok X G (c.t.d.fact 101 (f := (.glo "call_script")) rfl))
  · exact call_at vb (q := (4, 1, "call_undo")) (List.mem_of_getElem? (i := 4) rfl) (He.glo_ok X G (c.t.d.fact 102 (f := (.glo "call_undo")) rfl))
  · exact call_at vb (q := (5, 3, "call_drift")) (List.mem_of_getElem? (i := 5) rfl) (He.glo_ok X G (c.t.d.fact 103 (f := (.glo "call_drift")) rfl))
  · exact call_at vb (q := (6, 3, "call_both")) (List.mem_of_getElem? (i := 6) rfl) (He.glo_ok X G (c.t.d.fact 104 (f := (.glo "call_both")) rfl))
  · exact call_at vb (q := (7, 2, "call_hunks")) (List.mem_of_getElem? (i := 7) rfl) (He.glo_ok X G (c.t.d.fact 105 (f := (.glo "call_hunks")) rfl))
end Lp
set_option maxRecDepth 100000
set_option maxHeartbeats 4000000
/-! The end: the call from outside, with one table of code objects. -/
namespace Lp
open PySem PySem.Spec PyProof.Rows L2
open PySem.W (WData WellAll ReadsW)
theorem call_tab {P : Program} {w : World} {K : PySem.W.Frag} {mg mb : Str → Option Value} {k : Nat} {fa tc tb : Addr} {s : Shared} {vals : List Value} {ds : List WData} {R : PySem.W.WRecords} {cl : Str → Option Addr} {d0 : WData} {sp : Sp} {x : Str}
    (KX : K.In s.heap) (gm : s.heap.Ns mainGlobals mg) (gb : s.heap.Ns builtinsNs mb) (bb : ∀ y : Str, y ≠ "__name__" → mb y = bootBuiltins y) (lim : s.heap.NoLimit) (ng : s.gens = #[])
    (hT : s.heap.get? tb = some { cls := .none, data := .fields #[] }) (nT : K.lookup tb = none) (hc : PySem.W.CodeHd s.heap tc tb)
    (hbm : ∃ (bm : Addr) (ob : Obj), mg "__builtins__" = some (.ref bm) ∧ bm ≠ builtinsNs ∧ s.heap.get? bm = some ob ∧ ob.cls = .type "module" ∧ ob.dict = some builtinsNs ∧ ob.data = .plain)
    (wl : WellAll w.params s.heap vals ds) (pl : plWs ds = true) (wt : ∀ d ∈ ds, d.weight ≤ 1048576) (one : ds.length = 1) (room : Room k callerA)
    (F : ∀ base : Heap, K.In base → base.Ns mainGlobals mg → LamX.TabB base mg tc tb → ∃ fd : FuncData, FnOk P w K mg base (L2.CX P w) k fa fd [x] sp ∧ Binds K fd [x] [])
    (want : ∀ (H0 H : Hp) (xs : List V), DwAll K H0 xs ds → Same H0 H → H tb = some (.tbl #[]) → sp xs H (fun v H' => Dw K H' v d0) fun _ _ _ => False) :
    codeAny (model P w) callerA (.call (.ref fa) ⟨vals, []⟩) (fun r t => ∃ u as, r = .ok (.ret u) ∧ ReadsW R cl t.heap u d0 as ∧ OldK s.heap t.heap ∧ t.os = s.os ∧ AllBare t.gens) s := by
  obtain ⟨ar, inA, obA⟩ := area_all ds vals wl pl wt
  have hA : HOk P w (argH K s.heap ar) s.heap := argH_ok obA
  have onlyA : OnlyF (argH K s.heap ar) := argH_only obA
  have dwA := dw_all KX obA ds vals wl pl inA
  have rel := vals_toV inA
  have outK : ∀ b u, argH K s.heap ar b = some u → K.lookup b = none := fun b u z => (argH_is obA z).1
  have seqA : ∀ b u, argH K s.heap ar b = some u → (∃ (o : Obj) (vs : List Value) (n : Nat), s.heap.get? b = some o ∧ o.data = .seq vs.toArray n) ∧ ((∃ o xs, u = .frz o (.lst xs)) ∨ ∃ o xs, u = .frz o (.tup xs)) := fun b u z => by
    obtain ⟨_, vs, _, _, ⟨e, e2⟩ | ⟨e, e2⟩⟩ := argH_is obA z
    · exact ⟨⟨_, vs, _, e, rfl⟩, .inl ⟨_, _, e2⟩⟩
    · exact ⟨⟨_, vs, _, e, rfl⟩, .inr ⟨_, _, e2⟩⟩
  generalize argH K s.heap ar = H0 at hA onlyA dwA outK seqA
  have freeT : H0 tb = none := by
    cases z : H0 tb with
    | none => rfl
    | some u =>
      obtain ⟨⟨o, vs, n, e, d⟩, _⟩ := seqA _ _ z
      rw [hT] at e
      cases e
      cases d
  obtain ⟨H, hH⟩ : ∃ H : Hp, H = upd H0 tb (.tbl #[]) := ⟨_, rfl⟩
  have atT : H tb = some (.tbl #[]) := by rw [hH, upd_same]
  have off : ∀ b, b ≠ tb → H b = H0 b := fun b n => by rw [hH, upd_ne n]
  have sm : Same H0 H := hH ▸ same_new freeT
  have okH : HOk P w H s.heap := fun b u z => by
    by_cases c : b = tb
    · rw [c, atT] at z
      cases z
      rw [c]
      exact hT
    · rw [off b c] at z
      obtain ⟨_, ⟨o, xs, e⟩ | ⟨o, xs, e⟩⟩ := seqA _ _ z
      · subst e; exact hA b _ z
      · subst e; exact hA b _ z
  -- what is neither a row nor a table is not tracked
  have plain : ∀ {b : Addr} {o : Obj}, s.heap.get? b = some o → (∀ vs n, o.data ≠ .seq vs n) → o.data ≠ .fields #[] → H b = none := fun {b o} e n1 n2 => by
    by_cases c : b = tb
    · rw [c, hT] at e
      cases e
      exact absurd rfl n2
    · rw [off b c]
      cases z : H0 b with
      | none => rfl
      | some u =>
        obtain ⟨⟨o', vs, n, e', d⟩, _⟩ := seqA _ _ z
        rw [e] at e'
        cases e'
        exact absurd d (n1 _ _)
  have names : ∀ {b : Addr} {m : Str → Option Value}, s.heap.Ns b m → (hidT s.heap H).Ns b m := fun ⟨o, es, ep, e, d, r⟩ => ⟨o, es, ep, hidT_get e (plain e (fun _ _ z => by rw [d] at z; cases z) fun z => by rw [d] at z; cases z), d, r⟩
  have KB : K.In (hidT s.heap H) := fun b o e => hidT_get (KX b o e) (by
    by_cases c : b = tb
    · rw [c, nT] at e
      cases e
    · rw [off b c]
      cases z : H0 b with
      | none => rfl
      | some u => rw [outK b u z] at e; cases e)
  have MB : L2.Mod K mg (hidT s.heap H) := by
    obtain ⟨mc, l1, l2⟩ := lim
    exact ⟨KB, names gm, ⟨mb, names gb, bb⟩, ⟨mc, names l1, l2⟩⟩
  have tabB : LamX.TabB (hidT s.heap H) mg tc tb := by
    constructor
    · obtain ⟨o, us, file, tf, flags, tg, inF, text, tt, e, c1, c2, c3, rest⟩ := hc
      refine ⟨o, us, file, tf, flags, tg, inF, text, tt, hidT_get e (plain e (fun _ _ z => by rw [c2] at z; cases z) fun z => ?_), c1, c2, c3, rest⟩
      rw [c2] at z
      cases z
      simp at c3
    · obtain ⟨bm, ob, b1, b2, b3, b4, b5, b6⟩ := hbm
      refine ⟨bm, ob, b1, b2, fun z => ?_, fun z => ?_, hidT_get b3 (plain b3 (fun _ _ z => by rw [b6] at z; cases z) fun z => by rw [b6] at z; cases z), b4, b5, b6⟩
      · obtain ⟨o, es, ep, e, d, _⟩ := gm
        rw [z, e] at b3
        cases b3
        rw [d] at b6
        cases b6
      · rw [z, hT] at b3
        cases b3
        cases b6
    · intro z
      obtain ⟨o, es, ep, e, d, _⟩ := gm
      rw [z, hT] at e
      cases e
      cases d
  obtain ⟨fd, fn, bd⟩ := F _ KB (names gm) tabB
  have env : Env0 P w K mg (hidT s.heap H) callerA [] s H := ⟨rfl, MB, fun b o e => of_hidT e, Nat.le_of_eq (hidT_size _ _), trivial, fun b z => (List.not_mem_nil z).elim, okH, .of_eq ng⟩
  have len : vals.length = 1 := (wellAll_len wl).trans one
  have bind : BindsTo s fd ⟨vals, []⟩ (([x] : List Str).zip vals) := by
    have z := bd s vals KX (by rw [List.append_nil, len]; rfl)
    rw [List.append_nil] at z
    exact z
  refine codeAny_mono (fn.run callerA [] s H ⟨vals, []⟩ vals (vals.map toV) _ _ room env bind rel (want H0 H _ dwA sm atT)) fun r t q => ?_
  match r, q with
  | .error e, q =>
    obtain ⟨_, _, _, _, _, _, _, _, _, _, _, _, z⟩ := q
    exact z.elim
  | .ok .next, q => exact False.elim q
  | .ok .brk, q => exact False.elim q
  | .ok .cont, q => exact False.elim q
  | .ok (.ret u), q =>
    obtain ⟨v, H', os, bare, un, ok', ru, res⟩ := q
    have stay : ∀ b o, b ≠ tb → s.heap.get? b = some o → t.heap.get? b = some o := fun b o n e => by
      cases z : H b with
      | none => exact un.keep b o e z (by intro m; exact (List.not_mem_nil m).elim) (by simp)
      | some u2 =>
        rw [off b n] at z
        rcases onlyA b with z0 | ⟨ob, u3, z0⟩
        · rw [z0] at z; cases z
        · have z2 := un.frzs b ob _ (sm _ _ z0)
          obtain ⟨f1, _⟩ := hA b _ z0
          obtain ⟨f2, _⟩ := ok' b _ z2
          rw [e] at f1
          cases f1
          exact f2
    obtain ⟨more, hm⟩ := un.tbls tb #[] atT
    have grown : t.heap.get? tb = some { cls := .none, data := .fields (#[] ++ more) } := ok' tb _ hm
    rw [Array.empty_append] at grown
    have KT : K.In t.heap := fun b o e => stay b o (fun z => by rw [z, nT] at e; cases e) (KX b o e)
    obtain ⟨as, rd⟩ := Dw.reads (R := R) (cl := cl) ok' KT d0 v u res ru
    refine ⟨u, as, rfl, rd, ⟨fun b o e => ?_, fun b o e => ?_⟩, os, bare⟩
    · by_cases c : b = tb
      · rw [c] at e ⊢
        rw [hT] at e
        cases e
        exact .inr (.inl ⟨(hc.tab hT).isCodeTable, rfl, #[], more, rfl, by rw [Array.empty_append]; exact grown⟩)
      · exact .inl (stay b o c e)
    · by_cases c : b = tb
      · exact ⟨_, by rw [c]; exact grown⟩
      · exact ⟨o, stay b o c e⟩
end Lp
set_option maxRecDepth 100000
set_option maxHeartbeats 8000000
namespace Lp
open PySem PySem.Spec PyProof.Rows L2
open PySem.W (WData WellAll ReadsW OpenSpec Codec)
theorem walkL {d : DefRec} (hd0 : d.params.defaults = []) (hn : d.name = "answers") : PySem.W.WalkOS seenL restL (PySem.W.XL seenL []) hookL.says rowL d [] (fun f vs => PySem.call f vs) := by
  intro w s0 s1 mg mb G Y fa o pm cdv doc dv kv at1 od cr df named ng args vals as pre lay rds well low
  obtain ⟨K, KX, c⟩ := Y
  obtain ⟨a, dec, ask⟩ := PySem.W.os_pre_some pre
  obtain ⟨eq, within⟩ := Codec.encAll_of_decAll _ args a dec
  subst eq
  have T := txt_of KX G.T.g c
  have DD := dcts_of KX G.T.g c
  have DC := dctc_of KX G.T.g c
  have mem : (("nearest_to", none) : He.Defn) ∈ tfL := List.mem_cons_self
  rw [hn] at named
  refine PySem.W.enter_call (codeAny_mono (call_tab (k := 11) (fa := fa) (tc := (adOf K).tc) (tb := (adOf K).tb) (R := []) (cl := classAt s0.heap) (d0 := rowL.ret.enc (Codec.app rowL.args rowL.f a)) (sp := spAnswers K (adOf K)) (x := "calls")
    KX G.T.g G.T.b G.T.builtins G.T.nolimit ng (c.empty _ mem) (c.out _ mem) (PySem.W.codeHd_of_K KX (c.hd _ mem)) G.T.bmain well (pl_encAll _ _) (layable_weight lay) (by rw [encAll_len]; rfl) ⟨rfl, by decide, by decide⟩ (fun base _ _ tb => ?_) (fun H0 H xs dw sm ht => ?_)) fun r t q => ?_)
  · obtain ⟨f, fd, fn, g, b⟩ := k_answers (P := rowL.prog) (w := w) T DD DC tb
    have e := named.symm.trans g
    cases e
    exact ⟨fd, fn, b⟩
  · cases dw with
    | cons x1 x2 =>
      cases x2
      cases x1 with
      | lst hs ha =>
        have e := ints_dw a.1 _ ha
        subst e
        exact ⟨_, a.1, rfl, sq_same hs sm, ask, LamX.TabS.nil ht, fun H' D z => .lst (SqL.of z) (dw_ints _)⟩
  · obtain ⟨u, as', rfl, h1, h2, h3, h4⟩ := q
    exact ⟨.inl ⟨u, _, as', rfl, fun _ => rfl, h1, (OpenSpec.post_iff (by decide +kernel) within _ _).mpr rfl, fun z => Bool.noConfusion (show false = true from z)⟩, h2, h3, h4⟩
end Lp
theorem PySem.Challenge.cw_linepatches_s01_answers_holds : PySem.Challenge.rw_linepatches_s01_answers.Holds := by
  refine HandSHeadRun.head_spec (q := Lp.seenL) (H := Lp.hookL) (ob := Lp.offL) (M := 6400) (loose := Lp.restL) (kwd := []) Lp.offL_eq (by kernel_rfl) (fun s => by kernel_rfl) Lp.runL (by rfl) (by rfl) (by rfl) PySem.W.os_shapes (by decide +kernel) (by decide +kernel) ⟨rfl, rfl, rfl, rfl, rfl, by decide +kernel⟩ ⟨[.list [.int 0, .int 0]], by decide +kernel, by decide +kernel⟩ ?_
  exact Lp.walkL rfl rfl
