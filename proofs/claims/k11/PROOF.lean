import PyProof.Rows.All
import PySem.Challenge.RW_evenboxes_k11_whole_dues_fit_together
import Wide.All
import OpenK.AllK
import Wide.FinOn
import KE.KStateDown
import Lean
import HandS.ForMost
import HandS.Exc
import HandS.WordsExc
import HandS.Defaults
import HandS.IsInst
import HandS.Gcd
import HandS.FStr
import HandS.Wide
import HandS.Style
import HandS.TupAny
import HandS.Walk
import HandS.Head0
import HandS.Head1
import HandS.Head2
import HandS.Head3
import HandS.HeadEnd
import HandS.HeadHook1
import HandS.HeadHook2
import KE.GoesEnum
import KE.GoesMore
import OpenK.KMeth
import HandS.SlotsOwn
import HandS.More
import KE.KSorted
import KE.KMinKey
import HandS.SortKw
import HandS.SetFor
import HandS.Strs
import HandS.Property
import KE.KCallOwn
import KE.KRevSl
import HandS.WideBits
import HandS.RaiseMore
import HandS.HeadWalk
set_option Elab.async false
set_option linter.all false
set_option maxRecDepth 100000
set_option maxHeartbeats 0
/-! A prelude of our own over the hand layer: callees by name, heaps that grow, typed values, comprehensions and loops in short. -/
namespace Z
open PySem PySem.Spec PyProof.Rows L2
/-! ### defs and callees by name -/
section
variable {P : Program} {w : World} {K : PySem.W.Frag} {mg : Str → Option Value} {base : Heap}
structure Df (K : PySem.W.Frag) (mg : Str → Option Value) (x : Str) (st : Stmt) : Prop where
  ex : ∃ f fd, mg x = some (.ref f) ∧ FunD K x x (defArgs st) (defBody st) (defScope st) [] [] f fd
structure Cal (P : Program) (w : World) (K : PySem.W.Frag) (mg : Str → Option Value) (base : Heap) (k : Nat) (x : Str) (ps : List Str) (sp : Sp) : Prop where
  ex : ∃ f fd, mg x = some (.ref f) ∧ PySem.W.keepIn K (.ref f) = true ∧ Binds K fd ps [] ∧ FnOk P w K mg base (L2.CX P w) k f fd ps sp
/-- a method's def at the class C -/
structure Dm (K : PySem.W.Frag) (C : Addr) (m q : Str) (st : Stmt) : Prop where
  ex : ∃ f fd, Cls K C ∧ Meth K C m f ∧ FunD K m q (defArgs st) (defBody st) (defScope st) [] [] f fd
structure Mtd (P : Program) (w : World) (K : PySem.W.Frag) (mg : Str → Option Value) (base : Heap) (k : Nat) (C : Addr) (m : Str) (ps : List Str) (sp : Sp) : Prop where
  ex : ∃ f fd, Cls K C ∧ Meth K C m f ∧ Binds K fd ps [] ∧ FnOk P w K mg base (L2.CX P w) k f fd ps sp
/-- a class's maker -/
structure Di (K : PySem.W.Frag) (mg : Str → Option Value) (x q : Str) (C : Addr) (st : Stmt) : Prop where
  ex : ∃ f fd, mg x = some (.ref C) ∧ Mk K C f ∧ FunD K "__init__" q (defArgs st) (defBody st) (defScope st) [] [] f fd
structure Mkr (P : Program) (w : World) (K : PySem.W.Frag) (mg : Str → Option Value) (base : Heap) (k : Nat) (x : Str) (C : Addr) (ps : List Str) (sp : Sp) : Prop where
  ex : ∃ f fd, mg x = some (.ref C) ∧ Mk K C f ∧ Binds K fd ps [] ∧ FnOk P w K mg base (L2.CX P w) k f fd ps sp
/-- a body that lets nothing out -/
abbrev Body (P : Program) (w : World) (K : PySem.W.Frag) (mg : Str → Option Value) (base : Heap) (k : Nat) (q : Str) (N : List Str) (st : Stmt) (sp : Sp) : Prop :=
  ∀ (f : Addr) (cdv : Value) (A : Around) (outer : List Env) (s : Shared) (H : Hp) (vs : List V) (Q : VK) (E : XK), Room k (A.deeper (envOfC q (defScope st) s.heap.objs.size f cdv)) → sp vs H Q E →
    ∃ t, PSs (cxOf (L2.CX P w) P w K mg base N q (defScope st) f cdv A outer s H E).nox (defBody st) t ∧ t { nx := fun _ H' => Q .non H', rt := Q } (start N vs) H
abbrev Bnd (x q : Str) (st : Stmt) (ps : List Str) : Prop :=
  ∀ (kV doc pm : Value) (an : Option Addr) (cdv ct : Value) (us : List Value), us.length = ps.length → bindArgs (PySem.W.fnOf x q (defArgs st) (defBody st) (defScope st) .none kV doc pm an cdv ct) ⟨us, []⟩ = pure (ps.zip us)
theorem Df.cal {x : Str} {st : Stmt} {N ps : List Str} {k : Nat} {sp : Sp} (D : Df K mg x st) (S : FnScope N ps (defScope st)) (hb : Bnd x x st ps) (len : ∀ vs H Q E, sp vs H Q E → vs.length = ps.length)
    (body : Body P w K mg base k x N st sp) : Cal P w K mg base (k + 1) x ps sp := by
  obtain ⟨f, fd, hm, F⟩ := D.ex
  refine ⟨f, fd, hm, F.kp, F.bindsN hb, F.ok S len fun cdv A outer s H vs Q E hr h => ?_⟩
  obtain ⟨t, h1, h2⟩ := body f cdv A outer s H vs Q E hr h
  exact ⟨t, h1.nox, h2⟩
theorem Dm.mtd {C : Addr} {m q : Str} {st : Stmt} {N ps : List Str} {k : Nat} {sp : Sp} (D : Dm K C m q st) (S : FnScope N ps (defScope st)) (hb : Bnd m q st ps) (len : ∀ vs H Q E, sp vs H Q E → vs.length = ps.length)
    (body : Body P w K mg base k q N st sp) : Mtd P w K mg base (k + 1) C m ps sp := by
  obtain ⟨f, fd, hc, hm, F⟩ := D.ex
  refine ⟨f, fd, hc, hm, F.bindsN hb, F.ok S len fun cdv A outer s H vs Q E hr h => ?_⟩
  obtain ⟨t, h1, h2⟩ := body f cdv A outer s H vs Q E hr h
  exact ⟨t, h1.nox, h2⟩
theorem Di.mkr {C : Addr} {x q : Str} {st : Stmt} {N ps : List Str} {k : Nat} {sp : Sp} (D : Di K mg x q C st) (S : FnScope N ps (defScope st)) (hb : Bnd "__init__" q st ps) (len : ∀ vs H Q E, sp vs H Q E → vs.length = ps.length)
    (body : Body P w K mg base k q N st sp) : Mkr P w K mg base (k + 1) x C ps sp := by
  obtain ⟨f, fd, hm, hk, F⟩ := D.ex
  refine ⟨f, fd, hm, hk, F.bindsN hb, F.ok S len fun cdv A outer s H vs Q E hr h => ?_⟩
  obtain ⟨t, h1, h2⟩ := body f cdv A outer s H vs Q E hr h
  exact ⟨t, h1.nox, h2⟩
end
section
variable {X : Cx} {k j : Nat} {x m : Str} {C : Addr} {ps : List Str} {sp : Sp} {e o : Expr} {es : List Expr} {t : TA} {to : TE} {p pos apos : Pos}
theorem pe_cal (c : Cal X.prog X.w X.K X.mg X.base k x ps sp) (hr : Room j X.A) (hkj : k ≤ j) (hg : Gl X x) (ha : PA X (e :: es) t) (hdb : (x == ("__debug__" : Str)) = false := by decide)
    (he : starEach (e :: es) X.env = (false, eval e X.env) :: starEach es X.env := by rfl) (hpl : (backTo pos (starEach es X.env)).any (·.1) = false := by rfl) : PE X (.Call (.Name x p) (e :: es) [] pos) (tCall sp [] E0 t) := by
  obtain ⟨f, fd, hm, hk, hb, F⟩ := c.ex
  exact pe_call F (hr.mono hkj) hg hm hk hb .nil passL ha hdb he hpl
theorem pe_cal0 (c : Cal X.prog X.w X.K X.mg X.base k x ps sp) (hr : Room j X.A) (hkj : k ≤ j) (hg : Gl X x) (hdb : (x == ("__debug__" : Str)) = false := by decide) : PE X (.Call (.Name x p) [] [] pos) (tCall sp [] E0 tNil) := by
  obtain ⟨f, fd, hm, hk, hb, F⟩ := c.ex
  exact pe_call0 F (hr.mono hkj) hg hm hk hb .nil passL hdb
theorem pe_mk (c : Mkr X.prog X.w X.K X.mg X.base k x C ps sp) (hr : Room j X.A) (hkj : k + 1 ≤ j) (hg : Gl X x) (ha : PA X (e :: es) t) (hdb : (x == ("__debug__" : Str)) = false := by decide)
    (he : starEach (e :: es) X.env = (false, eval e X.env) :: starEach es X.env := by rfl) (hpl : (backTo pos (starEach es X.env)).any (·.1) = false := by rfl) : PE X (.Call (.Name x p) (e :: es) [] pos) (tMake C sp [] E0 t) := by
  obtain ⟨f, fd, hm, hk, hb, F⟩ := c.ex
  exact pe_make hk F (hr.mono hkj) hg hm hb .nil passL ha hdb he hpl
theorem pe_mth {pl : Sem Bool} (c : Mtd X.prog X.w X.K X.mg X.base k C m ps sp) (hr : Room j X.A) (hkj : k ≤ j) (ho : PE X o to) (ha : PA X (e :: es) t)
    (hst : starEach (e :: es) X.env = (false, eval e X.env) :: starEach es X.env := by rfl) (hpl : (backTo pos (starEach es X.env)).any (·.1) = false := by rfl)
    (ht : eval (.Call (.Attribute o m apos) (e :: es) [] pos) X.env = (do
      let ov ← eval o X.env
      standAt apos.atName
      let (f, first) ← holding [ov] (getMethod ov m pl)
      callWith pos f first (backTo pos (starEach (e :: es) X.env)) (backToKw pos (keywordEach [] X.env))) := by rfl) : PE X (.Call (.Attribute o m apos) (e :: es) [] pos) (tMeth C m sp [] E0 to t) := by
  obtain ⟨f, fd, hc, hm, hb, F⟩ := c.ex
  exact pe_meth ho hc hm F (hr.mono hkj) hb .nil passL ha hst hpl ht
theorem pe_gi {i : Int} (hg : Gl X x) (hm : ∃ t, X.mg x = some (.int i t)) (hd : (x == ("__debug__" : Str)) = false := by decide) : PE X (.Name x pos) (tC (.int i)) := by
  obtain ⟨t, h⟩ := hm
  exact pe_glob hg h ⟨t, rfl⟩ hd
theorem pe_gs {z : Str} (hg : Gl X x) (hm : ∃ t, X.mg x = some (.str z t)) (hd : (x == ("__debug__" : Str)) = false := by decide) : PE X (.Name x pos) (tC (.str z)) := by
  obtain ⟨t, h⟩ := hm
  exact pe_glob hg h ⟨t, rfl⟩ hd
end
/-- built-in names that the top leaves alone -/
structure Bl (mg : Str → Option Value) : Prop where
  isinstance_ : mg "isinstance" = none
  len_ : mg "len" = none
  all_ : mg "all" = none
  any_ : mg "any" = none
  enumerate_ : mg "enumerate" = none
  tuple_ : mg "tuple" = none
  list_ : mg "list" = none
  dict_ : mg "dict" = none
  sum_ : mg "sum" = none
  range_ : mg "range" = none
  int_ : mg "int" = none
  str_ : mg "str" = none
  bool_ : mg "bool" = none
  abs_ : mg "abs" = none
  min_ : mg "min" = none
  max_ : mg "max" = none
  divmod_ : mg "divmod" = none
  repr_ : mg "repr" = none
  sorted_ : mg "sorted" = none
  zip_ : mg "zip" = none
  reversed_ : mg "reversed" = none
  set_ : mg "set" = none
theorem small {n : Nat} (h : n ≤ 100000) : n ≤ sizeLine := Nat.le_trans h (by decide)
theorem smallt {n : Nat} (h : n < 100000) : n < sizeLine := Nat.lt_of_lt_of_le h (by decide)
/-! ### heaps that grow: all that was tracked stands; lists and instances that m names may hold other things -/
def Alt (o o' : HO) : Prop := (∃ xs ys, o = .lst xs ∧ o' = .lst ys) ∨ ∃ C dx fs fs', o = .ins C dx fs ∧ o' = .ins C dx fs'
def Gr (m : Addr → Prop) (H H' : Hp) : Prop := ∀ b o, H b = some o → H' b = some o ∨ (m b ∧ ∃ o', Alt o o' ∧ H' b = some o')
abbrev nob : Addr → Prop := fun _ => False
abbrev any : Addr → Prop := fun _ => True
abbrev Ex (H H' : Hp) : Prop := Gr nob H H'
section
variable {m n : Addr → Prop} {H H' H'' : Hp} {a b p : Addr} {o o' : HO} {K : PySem.W.Frag}
theorem Alt.trans {o1 o2 o3 : HO} (h : Alt o1 o2) (k : Alt o2 o3) : Alt o1 o3 := by
  rcases h with ⟨xs, ys, rfl, rfl⟩ | ⟨C, dx, fs, fs', rfl, rfl⟩
  · rcases k with ⟨_, zs, _, rfl⟩ | ⟨_, _, _, _, h, _⟩
    · exact .inl ⟨xs, zs, rfl, rfl⟩
    · cases h
  · rcases k with ⟨_, _, h, _⟩ | ⟨_, _, _, fs'', h, rfl⟩
    · cases h
    · cases h
      exact .inr ⟨C, dx, fs, fs'', rfl, rfl⟩
theorem Gr.refl : Gr m H H := fun _ _ h => .inl h
theorem Gr.trans (e : Gr m H H') (f : Gr m H' H'') : Gr m H H'' := fun c o h => by
  rcases e c o h with h | ⟨h1, o1, h2, h3⟩
  · exact f c o h
  · rcases f c _ h3 with h | ⟨_, o2, h4, h5⟩
    · exact .inr ⟨h1, o1, h2, h⟩
    · exact .inr ⟨h1, o2, h2.trans h4, h5⟩
theorem Gr.up (h : Gr m H H') (w : ∀ a, m a → n a) : Gr n H H' := fun b o e => (h b o e).imp id fun ⟨h1, h2⟩ => ⟨w b h1, h2⟩
theorem Gr.any (h : Gr m H H') : Gr any H H' := h.up fun _ _ => trivial
theorem Gr.of (h : Ex H H') : Gr m H H' := h.up fun _ z => z.elim
/-- a new object -/
theorem Gr.new (h : H p = none) : Gr m H (upd H p o) := fun b u e => .inl (by
  rw [upd_ne (ne_of_none e h)]
  exact e)
theorem Gr.alloc (e : Gr m H H') (h : H' p = none) : Gr m H (upd H' p o) := e.trans (.new h)
/-- an object that H did not know, or that may change, changes -/
theorem Gr.alt (e : Gr m H H') (h : H' p = some o) (ho : Alt o o') (hp : H p = none ∨ m p) : Gr m H (upd H' p o') := fun b u q => by
  by_cases hb : b = p
  · subst hb
    rcases hp with hp | hp
    · rw [hp] at q
      cases q
    · rcases e b u q with z | ⟨_, o1, z1, z2⟩
      · rw [h] at z
        cases z
        exact .inr ⟨hp, o', ho, upd_same⟩
      · rw [h] at z2
        cases z2
        exact .inr ⟨hp, o', z1.trans ho, upd_same⟩
  · rw [upd_ne hb]
    exact e b u q
theorem Gr.put {xs ys : List V} (e : Gr m H H') (h : H' p = some (.lst xs)) (hp : H p = none ∨ m p) : Gr m H (upd H' p (.lst ys)) := e.alt h (.inl ⟨xs, ys, rfl, rfl⟩) hp
theorem Gr.puti {C dx : Addr} {fs fs' : List (Str × V)} (e : Gr m H H') (h : H' p = some (.ins C dx fs)) (hp : H p = none ∨ m p) : Gr m H (upd H' p (.ins C dx fs')) := e.alt h (.inr ⟨C, dx, fs, fs', rfl, rfl⟩) hp
theorem Gr.at (e : Gr m H H') (h : H a = some o) (q : ¬ m a) : H' a = some o := (e a o h).elim id fun ⟨z, _⟩ => (q z).elim
theorem Gr.get (e : Ex H H') (h : H a = some o) : H' a = some o := e.at h id
/-- what neither a list nor an instance is -/
def still : HO → Bool
  | .lst _ => false | .ins _ _ _ => false | _ => true
theorem Gr.still (e : Gr m H H') (h : H a = some o) (s : still o = true) : H' a = some o := by
  rcases e a o h with z | ⟨_, _, z, _⟩
  · exact z
  · rcases z with ⟨_, _, rfl, _⟩ | ⟨_, _, _, _, rfl, _⟩ <;> cases s
theorem Gr.tup {xs : List V} (e : Gr m H H') (h : H a = some (.tup xs)) : H' a = some (.tup xs) := e.still h rfl
theorem Gr.ins {C dx : Addr} {fs : List (Str × V)} (e : Gr m H H') (h : H a = some (.ins C dx fs)) : ∃ fs', H' a = some (.ins C dx fs') := by
  rcases e a _ h with z | ⟨_, _, z, z2⟩
  · exact ⟨fs, z⟩
  · rcases z with ⟨_, _, q, _⟩ | ⟨_, _, _, fs', q, rfl⟩
    · cases q
    · cases q
      exact ⟨fs', z2⟩
theorem Gr.frz {ob : Obj} {u : HO} (e : Gr m H H') (h : H a = some (.frz ob u)) : H' a = some (.frz ob u) := e.still h rfl
theorem Gr.lst {xs : List V} (e : Gr m H H') (h : H a = some (.lst xs)) : ∃ ys, H' a = some (.lst ys) := by
  rcases e a _ h with z | ⟨_, _, z, z2⟩
  · exact ⟨xs, z⟩
  · rcases z with ⟨_, ys, _, rfl⟩ | ⟨_, _, _, _, q, _⟩
    · exact ⟨ys, z2⟩
    · cases q
theorem Gr.free (e : Gr m H H') (h : H' p = none) : H p = none := by
  cases q : H p with
  | none => rfl
  | some u =>
    rcases e p u q with z | ⟨_, _, _, z⟩
    · rw [h] at z
      cases z
    · rw [h] at z
      cases z
theorem Gr.seqT {xs : List V} (e : Gr m H H') (h : SqT K H a xs) : SqT K H' a xs := by
  rcases h with (h | ⟨o, h⟩) | h
  · exact .inl (.inl (e.tup h))
  · exact .inl (.inr ⟨o, e.frz h⟩)
  · exact .inr h
theorem Gr.seqL {xs : List V} (e : Gr m H H') (h : SqL K H a xs) (q : ¬ m a) : SqL K H' a xs := by
  rcases h with (h | ⟨o, h⟩) | h
  · exact .inl (.inl (e.at h q))
  · exact .inl (.inr ⟨o, e.frz h⟩)
  · exact .inr h
theorem sqT {xs : List V} (h : H a = some (.tup xs)) : SqT K H a xs := .inl (.inl h)
theorem sqL {xs : List V} (h : H a = some (.lst xs)) : SqL K H a xs := .inl (.inl h)
end
/-! ### comprehensions: any walk, each element told by R -/
theorem lc_all {J : It} {n : Nat} {G : Hp → Prop} {Y : Nat → Hp → V → Hp → Prop} (w : Walk J n G Y) (m : Addr → Prop) (I : Hp → Prop) (R : Nat → V → Hp → Prop) (hn : n ≤ 90000) {g : TG} {te : TE} {vs : List Nat} {σ : L2.St} {H : Hp} {Q : VK}
    (hG : ∀ H', Gr m H H' → G H') (hm : ∀ b, m b → H b ≠ none) (hI : I H) (hIu : ∀ H' D o, H D = none → Gr m H H' → I H' → I (upd H' D o)) (hR : ∀ i y H' H'', R i y H' → Gr any H' H'' → R i y H'')
    (hs : ∀ i x H' H'' (Q' : VK), i < n → Gr m H H' → I H' → Y i H' x H'' → (∀ y H3, Gr m H' H3 → I H3 → R i y H3 → Q' y H3) → g x (wipe σ vs) H'' fun σ2 H2 => wipe σ2 vs = wipe σ vs ∧ te σ2 H2 Q')
    (k : ∀ D ys H', H D = none → Gr m H H' → I H' → H' D = some (.lst ys) → ys.length = n → (∀ i y, ys[i]? = some y → R i y H') → Q (.ref D) H') :
    ∀ D, H D = none → ∃ W : Nat → Nat → Hp → Prop, (∃ m, W 0 m (upd H D (.lst []))) ∧ ∀ i m H, W i m H →
      (J.stop i H ∧ Q (.ref D) H) ∨ (J.go i H ∧ ∃ Nx : Hp → Prop, (∀ H', Nx H' → ∃ m', m' < m ∧ W (i + 1) m' H') ∧ ∀ x H', J.yld i H x H' → g x (wipe σ vs) H' fun σ2 H2 => wipe σ2 vs = wipe σ vs ∧ tYes σ2 H2 fun b H3 =>
        if b = true then te σ2 H3 fun y H4 => ∃ acc, H4 D = some (.lst acc) ∧ acc.length < sizeLine ∧ Nx (upd H4 D (.lst (acc ++ [y]))) else Nx H3) := fun D hD => by
  have nD : ¬ m D := fun z => hm D z hD
  refine lc_it w (fun i H' => Gr m H H' ∧ I H' ∧ ∃ ys, H' D = some (.lst ys) ∧ ys.length = i ∧ ∀ j y, ys[j]? = some y → R j y H') ⟨.new hD, hIu H D _ hD .refl hI, [], upd_same, rfl, fun j y h => by simp at h⟩ (fun i H' _ p => hG H' p.1) ?_ ?_
  · rintro i x H' H'' hi ⟨p1, p2, ys, p3, p4, p5⟩ hY
    refine hs i x H' H'' _ hi p1 p2 hY fun y H3 g1 g2 g3 => ?_
    have e3 := g1.at p3 nD
    refine ⟨ys, e3, smallt (by omega), (p1.trans g1).put e3 (.inl hD), hIu _ D _ hD (p1.trans g1) g2, _, upd_same, by rw [List.length_append, p4]; rfl, fun j z hz => ?_⟩
    have gu : Gr any H3 (upd H3 D (.lst (ys ++ [y]))) := Gr.refl.put e3 (.inr trivial)
    by_cases hj : j < ys.length
    · rw [List.getElem?_append_left hj] at hz
      exact hR j z _ _ (p5 j z hz) (g1.any.trans gu)
    · rw [List.getElem?_append_right (by omega)] at hz
      have hj2 : j - ys.length = 0 := by
        cases q : j - ys.length with
        | zero => rfl
        | succ r =>
          rw [q] at hz
          simp at hz
      rw [hj2] at hz
      cases hz
      have ej : j = i := by omega
      subst ej
      exact hR _ _ _ _ g3 gu
  · rintro H' ⟨p1, p2, ys, p3, p4, p5⟩
    exact k D ys H' hD p1 p2 p3 p4 p5
theorem tJs_nil {acc : Str} {σ : L2.St} {H : Hp} {Q : Str → Hp → Prop} : tJs [] acc σ H Q = Q acc H := rfl
theorem tJs_cons {t : TE} {ts : List TE} {acc : Str} {σ : L2.St} {H : Hp} {Q : Str → Hp → Prop} : tJs (t :: ts) acc σ H Q = t σ H fun x H1 => ∃ y : Str, x = .str y ∧ (acc ++ y).length ≤ sizeLine ∧ tJs ts (acc ++ y) σ H1 Q := rfl
theorem scal_ii {a b : Int} : scal (.int a) (.int b) = true := rfl
theorem scal_ss {a b : Str} : scal (.str a) (.str b) = true := rfl
theorem scal_bb {a b : Bool} : scal (.bl a) (.bl b) = true := rfl
/-! ### values by their type -/
inductive Tg | int | bl | str | tup | oth
  deriving DecidableEq
def Tg.int? : Tg → Bool | .int => true | .bl => true | _ => false
structure TyOk (K : PySem.W.Frag) (t : Value) (g : Tg) : Prop where
  i : PySem.W.kitOne K t (.type "int") = some g.int?
  b : PySem.W.kitOne K t (.type "bool") = some (decide (g = .bl))
  s : PySem.W.kitOne K t (.type "str") = some (decide (g = .str))
  t : PySem.W.kitOne K t (.type "tuple") = some (decide (g = .tup))
/-- v is of a type that g tells -/
def Tyd (K : PySem.W.Frag) (H : Hp) (v : V) (g : Tg) : Prop := ∃ t, TyX K H v t ∧ TyOk K t g
section
variable {K : PySem.W.Frag} {H : Hp} {a : Addr}
theorem tyok_int : TyOk K (.type "int") .int := ⟨kit_ty (by decide +kernel), kit_ty (by decide +kernel), kit_ty (by decide +kernel), kit_ty (by decide +kernel)⟩
theorem tyok_bl : TyOk K (.type "bool") .bl := ⟨kit_ty (by decide +kernel), kit_ty (by decide +kernel), kit_ty (by decide +kernel), kit_ty (by decide +kernel)⟩
theorem tyok_str : TyOk K (.type "str") .str := ⟨kit_ty (by decide +kernel), kit_ty (by decide +kernel), kit_ty (by decide +kernel), kit_ty (by decide +kernel)⟩
theorem tyok_tup : TyOk K (.type "tuple") .tup := ⟨kit_ty (by decide +kernel), kit_ty (by decide +kernel), kit_ty (by decide +kernel), kit_ty (by decide +kernel)⟩
theorem tyok_lst : TyOk K (.type "list") .oth := ⟨kit_ty (by decide +kernel), kit_ty (by decide +kernel), kit_ty (by decide +kernel), kit_ty (by decide +kernel)⟩
theorem tyok_dct : TyOk K (.type "dict") .oth := ⟨kit_ty (by decide +kernel), kit_ty (by decide +kernel), kit_ty (by decide +kernel), kit_ty (by decide +kernel)⟩
theorem tyok_non : TyOk K (.type "NoneType") .oth := ⟨kit_ty (by decide +kernel), kit_ty (by decide +kernel), kit_ty (by decide +kernel), kit_ty (by decide +kernel)⟩
theorem tyd_int (i : Int) : Tyd K H (.int i) .int := ⟨_, .base (.int i), tyok_int⟩
theorem tyd_bl (b : Bool) : Tyd K H (.bl b) .bl := ⟨_, .base (.bl b), tyok_bl⟩
theorem tyd_str (s : Str) : Tyd K H (.str s) .str := ⟨_, .base (.str s), tyok_str⟩
theorem tyd_non : Tyd K H .non .oth := ⟨_, .base .non, tyok_non⟩
theorem tyd_tup {xs : List V} (h : H a = some (.tup xs)) : Tyd K H (.ref a) .tup := ⟨_, .base (.tup h), tyok_tup⟩
theorem tyd_lst {xs : List V} (h : H a = some (.lst xs)) : Tyd K H (.ref a) .oth := ⟨_, .base (.lst h), tyok_lst⟩
/-- isinstance(v, T), read -/
theorem isi_int {v : V} {g : Tg} {Q : VK} (h : Tyd K H v g) (q : Q (.bl g.int?) H) : rIsi K [v, .ty "int"] H Q := by
  obtain ⟨t, h1, h2⟩ := h
  exact ⟨v, .ty "int", t, .type "int", _, rfl, .ty _, h1, h2.i, q⟩
theorem isi_bl {v : V} {g : Tg} {Q : VK} (h : Tyd K H v g) (q : Q (.bl (decide (g = .bl))) H) : rIsi K [v, .ty "bool"] H Q := by
  obtain ⟨t, h1, h2⟩ := h
  exact ⟨v, .ty "bool", t, .type "bool", _, rfl, .ty _, h1, h2.b, q⟩
theorem isi_str {v : V} {g : Tg} {Q : VK} (h : Tyd K H v g) (q : Q (.bl (decide (g = .str))) H) : rIsi K [v, .ty "str"] H Q := by
  obtain ⟨t, h1, h2⟩ := h
  exact ⟨v, .ty "str", t, .type "str", _, rfl, .ty _, h1, h2.s, q⟩
theorem isi_tup {v : V} {g : Tg} {Q : VK} (h : Tyd K H v g) (q : Q (.bl (decide (g = .tup))) H) : rIsi K [v, .ty "tuple"] H Q := by
  obtain ⟨t, h1, h2⟩ := h
  exact ⟨v, .ty "tuple", t, .type "tuple", _, rfl, .ty _, h1, h2.t, q⟩
end
end Z
namespace Z
open PySem PySem.Spec PyProof.Rows L2
/-! ### data: atoms and tuples, and other things by their type alone -/
inductive D | non | bl (b : Bool) | int (i : Int) | str (s : Str) | tup (l : List D) | oth
def D.tg : D → Tg
  | .non => .oth | .bl _ => .bl | .int _ => .int | .str _ => .str | .tup _ => .tup | .oth => .oth
mutual
inductive DT (K : PySem.W.Frag) (H : Hp) : V → D → Prop
  | non : DT K H .non .non
  | bl (b : Bool) : DT K H (.bl b) (.bl b)
  | int (i : Int) : DT K H (.int i) (.int i)
  | str (s : Str) : DT K H (.str s) (.str s)
  | tup {a : Addr} {xs : List V} {ds : List D} : SqT K H a xs → DTs K H xs ds → DT K H (.ref a) (.tup ds)
  | oth {v : V} : Tyd K H v .oth → DT K H v .oth
inductive DTs (K : PySem.W.Frag) (H : Hp) : List V → List D → Prop
  | nil : DTs K H [] []
  | cons {v : V} {vs : List V} {d : D} {ds : List D} : DT K H v d → DTs K H vs ds → DTs K H (v :: vs) (d :: ds)
end
section
variable {K : PySem.W.Frag} {H : Hp} {v : V} {d : D} {a : Addr}
theorem tyd_sqT {xs : List V} (h : SqT K H a xs) : Tyd K H (.ref a) .tup := by
  rcases h with (h | ⟨o, h⟩) | h
  · exact tyd_tup h
  · exact ⟨_, .fTuple h, tyok_tup⟩
  · obtain ⟨o, its, n, h1, h2, _⟩ := h
    exact ⟨_, .kTuple h1 h2, tyok_tup⟩
theorem Tyd.oth_mono {H' : Hp} {g : Tg} (h : Tyd K H v g) (e : Gr any H H') : Tyd K H' v g := by
  obtain ⟨t, h1, h2⟩ := h
  refine ⟨t, ?_, h2⟩
  cases h1 with
  | base b =>
    cases b with
    | non => exact .base .non
    | bl b => exact .base (.bl b)
    | int i => exact .base (.int i)
    | str s => exact .base (.str s)
    | flt y => exact .base (.flt y)
    | lst q =>
      obtain ⟨ys, z⟩ := e.lst q
      exact .base (.lst z)
    | frz q => exact .base (.frz (e.frz q))
    | tup q => exact .base (.tup (e.tup q))
    | dK q => exact .base (.dK (e.still q rfl))
    | dT q => exact .base (.dT (e.still q rfl))
    | ins q c k1 k2 k3 k4 =>
      obtain ⟨fs', z⟩ := e.ins q
      exact .base (.ins z c k1 k2 k3 k4)
  | byt b => exact .byt b
  | set q => exact .set (e.still q rfl)
  | kList q c => exact .kList q c
  | kTuple q c => exact .kTuple q c
  | kDict q c => exact .kDict q c
  | fTuple q => exact .fTuple (e.frz q)
  | fDict q => exact .fDict (e.frz q)
mutual
theorem DT.mono {H' : Hp} {v : V} {d : D} (h : DT K H v d) (e : Gr any H H') : DT K H' v d := by
  cases h with
  | non => exact .non
  | bl b => exact .bl b
  | int i => exact .int i
  | str s => exact .str s
  | tup h hs => exact .tup (e.seqT h) (DTs.mono hs e)
  | oth h => exact .oth (h.oth_mono e)
theorem DTs.mono {H' : Hp} {vs : List V} {ds : List D} (h : DTs K H vs ds) (e : Gr any H H') : DTs K H' vs ds := by
  cases h with
  | nil => exact .nil
  | cons h hs => exact .cons (DT.mono h e) (DTs.mono hs e)
end
theorem DT.tyd (h : DT K H v d) : Tyd K H v d.tg := by
  cases h with
  | non => exact tyd_non
  | bl b => exact tyd_bl b
  | int i => exact tyd_int i
  | str s => exact tyd_str s
  | tup h _ => exact tyd_sqT h
  | oth h => exact h
end
def D.isInt : D → Bool
  | .int _ => true | _ => false
def D.isNum : D → Bool
  | .int i => decide (0 ≤ i) | _ => false
def D.isIn (d : D) (lo hi : Int) : Bool := match d with
  | .int i => decide (lo ≤ i) && decide (i ≤ hi) | _ => false
theorem D.isInt_of (d : D) : d.isInt = (d.tg.int? && !(decide (d.tg = .bl))) := by cases d <;> rfl
theorem D.isInt_some {d : D} (h : d.isInt = true) : ∃ i, d = .int i := by
  cases d <;> first | exact ⟨_, rfl⟩ | cases h
theorem D.isNum_no {d : D} (h : d.isInt = false) : d.isNum = false := by
  cases d <;> first | rfl | cases h
theorem D.isIn_no {d : D} {lo hi : Int} (h : d.isInt = false) : d.isIn lo hi = false := by
  cases d <;> first | rfl | cases h
/-! ### names -/
def lower (c : Nat) : Bool := decide (97 ≤ c) && decide (c ≤ 122)
def lowdig (c : Nat) : Bool := lower c || (decide (48 ≤ c) && decide (c ≤ 57))
def nameOk (s : Str) : Bool := decide (1 ≤ s.length) && decide (s.length ≤ 8) && (match s.cps.toList with
  | [] => false
  | c :: _ => lower c) && s.cps.toList.all lowdig
def D.isName : D → Bool
  | .str s => nameOk s | _ => false
/-- a text that the machine can measure -/
def D.fits : D → Prop
  | .str s => s.length ≤ 100000 | _ => True
end Z
namespace Z
open PySem PySem.Spec PyProof.Rows L2
section
variable {K : PySem.W.Frag} {g : TG} {te : TE} {vs : List Nat} {σ : L2.St} {H : Hp} {Q : VK}
/-- [e for c in z], z a text: e of each sign is f c -/
theorem lc_str {i : Nat} {z : Str} (hi : σ[i]? = some (some (.str z))) (hz : z.length ≤ 90000) (f : Nat → V)
    (hs : ∀ c H' (Q' : VK), c ∈ z.cps.toList → Ex H H' → (∀ H3, Ex H' H3 → Q' (f c) H3) → g (.str ⟨#[c]⟩) (wipe σ vs) H' fun σ2 H2 => wipe σ2 vs = wipe σ vs ∧ te σ2 H2 Q')
    (k : ∀ D H', H D = none → Ex H H' → H' D = some (.lst (z.cps.toList.map f)) → Q (.ref D) H') : tLc (iStr (tVar i)) g tYes te vs σ H Q := by
  refine ⟨.str z, hi, z, rfl, lc_all (H := H) walk_str nob (fun _ => True) (fun i y _ => ∃ c, z.cps[i]? = some c ∧ y = f c) hz (fun _ _ => trivial) (fun _ q => q.elim) trivial (fun _ _ _ _ _ _ => trivial) (fun _ _ _ _ q _ => q) ?_ ?_⟩
  · rintro i x H' H'' Q' hi g1 _ ⟨rfl, c, h1, rfl⟩ q
    exact hs c _ Q' (by rw [← Array.getElem?_toList] at h1; exact List.mem_of_getElem? h1) g1 fun H3 e => q _ H3 e trivial ⟨c, h1, rfl⟩
  · intro D ys H' hD e _ h1 h2 h3
    refine k D H' hD e ?_
    have ey : ys = z.cps.toList.map f := by
      refine List.ext_getElem? fun i => ?_
      by_cases h : i < ys.length
      · obtain ⟨c, h4, h5⟩ := h3 i ys[i] (List.getElem?_eq_getElem h)
        rw [← Array.getElem?_toList] at h4
        rw [List.getElem?_map, h4, List.getElem?_eq_getElem h, h5]
        rfl
      · rw [List.getElem?_eq_none (by omega), List.getElem?_eq_none (by rw [List.length_map, Array.length_toList]; omega)]
    rw [← ey]
    exact h1
end
theorem letters_eq : (Str.ofString "abcdefghijklmnopqrstuvwxyz").cps.toList = [97, 98, 99, 100, 101, 102, 103, 104, 105, 106, 107, 108, 109, 110, 111, 112, 113, 114, 115, 116, 117, 118, 119, 120, 121, 122] := by decide +kernel
theorem lettersdigits_eq : (Str.ofString "abcdefghijklmnopqrstuvwxyz0123456789").cps.toList = [97, 98, 99, 100, 101, 102, 103, 104, 105, 106, 107, 108, 109, 110, 111, 112, 113, 114, 115, 116, 117, 118, 119, 120, 121, 122, 48, 49, 50, 51, 52, 53, 54, 55, 56, 57] := by decide +kernel
theorem in_letters (c : Nat) : decide (c ∈ (Str.ofString "abcdefghijklmnopqrstuvwxyz").cps.toList) = lower c := by
  rw [letters_eq]
  unfold lower
  rw [Bool.eq_iff_iff]
  simp only [decide_eq_true_eq, Bool.and_eq_true, List.mem_cons, List.not_mem_nil, or_false]
  omega
theorem in_lettersdigits (c : Nat) : decide (c ∈ (Str.ofString "abcdefghijklmnopqrstuvwxyz0123456789").cps.toList) = lowdig c := by
  rw [lettersdigits_eq]
  unfold lowdig lower
  rw [Bool.eq_iff_iff]
  simp only [decide_eq_true_eq, Bool.and_eq_true, Bool.or_eq_true, List.mem_cons, List.not_mem_nil, or_false]
  omega
theorem nameOk_iff {s : Str} {c : Nat} {r : List Nat} (h : s.cps.toList = c :: r) : nameOk s = (decide (s.length ≤ 8) && lower c && s.cps.toList.all lowdig) := by
  unfold nameOk
  rw [h]
  have e : s.length = r.length + 1 := by
    have e := congrArg List.length h
    rw [Array.length_toList, List.length_cons] at e
    exact e
  have e1 : decide (1 ≤ s.length) = true := decide_eq_true (by omega)
  rw [e1, Bool.true_and]
theorem nameOk_len {s : Str} (h : nameOk s = true) : 1 ≤ s.length ∧ s.length ≤ 8 := by
  unfold nameOk at h
  simp only [Bool.and_eq_true, decide_eq_true_eq] at h
  exact h.1.1
end Z

/-! enumerate(t), t a tuple: a walk of our own. -/
namespace ZE
open PySem PySem.Spec PyProof.Rows
set_option maxHeartbeats 1000000 in
theorem enum1_meets {v : Value} {ob : Obj} {St : Heap → Prop} (B : Begins v ob St) :
    Meets (Builtin.«enumerate.__new__» ⟨[.type "enumerate", v], []⟩) (fun _ R z => St z.heap ∧
      R (.ok (.ret (.ref (z.heap.push ob).objs.size))) { z with heap := (z.heap.push ob).push { cls := .type "enumerate", data := .fields #[.none, .bool false, .ref z.heap.objs.size, rawInt 0, .none, .none] } }) :=
  .of_wp fun prog w A R z hz => by
    obtain ⟨hp, gs, dr, tk, os⟩ := z
    obtain ⟨st, fin⟩ := hz
    have sub1 := sub_enumerate
    have it1 : ∀ {A2 : Around} {E : Value → Shared → Prop} {Q : Value → Shared → Prop}, Q (.ref hp.objs.size) ⟨hp.push ob, gs, dr, tk, os⟩ → wpAny (model prog w) A2 (pyIter v) Q E ⟨hp, gs, dr, tk, os⟩ := fun q => B.iter prog w _ _ ⟨hp, gs, dr, tk, os⟩ _ st q
    wp_walk using it1
    refine wpAny_stack_any fun sk => wpAny_pure ?_
    split
    · rename_i cc _ _ _ _ _
      cases (cc == Value.type "enumerate")
      · wp_walk using it1
        exact ⟨_, rfl, fin⟩
      · wp_walk using it1
        exact ⟨_, rfl, fin⟩
    · wp_walk using it1
      exact ⟨_, rfl, fin⟩
section
variable {prog : Program} {w : World} {A : Around} {E : Value → Shared → Prop} {z : Shared}
theorem enum1_call {v : Value} {ob : Obj} {St : Heap → Prop} {Q : Value → Shared → Prop} (B : Begins v ob St) (st : St z.heap)
    (fin : ∀ h', IsEnum h' (z.heap.objs.size + 1) z.heap.objs.size 0 .none → h'.get? z.heap.objs.size = some ob → h'.objs.size = z.heap.objs.size + 2 →
      (∀ b u, z.heap.get? b = some u → h'.get? b = some u) → Q (.ref (z.heap.objs.size + 1)) { z with heap := h' }) :
    wpAny (model prog w) A (call (.type "enumerate") [v]) Q E z := by
  refine callType_new F.called_enumerate (by decide) (F.typeCall_enumerate_1 v) (F.newCall_enumerate_1 v) (fun x => F.args_object_init_2 x v) F.entry_enumerate_new (enum1_meets B) ⟨st, ?_⟩
  have sz : (z.heap.push ob).objs.size = z.heap.objs.size + 1 := Heap.size_push ..
  show _ ∧ _
  rw [sz]
  have en : IsEnum ((z.heap.push ob).push { cls := .type "enumerate", data := .fields #[.none, .bool false, .ref z.heap.objs.size, rawInt 0, .none, .none] }) (z.heap.objs.size + 1) z.heap.objs.size 0 .none := by
    have q := Heap.get?_push_size (z.heap.push ob) (o := { cls := .type "enumerate", data := .fields #[.none, .bool false, .ref z.heap.objs.size, rawInt 0, .none, .none] }) rfl
    rw [sz] at q
    exact q
  exact ⟨⟨_, en, rfl⟩, fin _ en (Heap.get?_push_of_some _ (Heap.get?_push_size _ B.free)) (by rw [Heap.size_push, sz]) fun b u x => Heap.get?_push_of_some _ (Heap.get?_push_of_some _ x)⟩
end
open L2 Z
/-- the tuple at a, each item in a new pair with its place -/
def IteT (K : PySem.W.Frag) (a : Addr) : It :=
  ⟨fun i H => ∃ (xs : List V) (x : V), SqT K H a xs ∧ xs[i]? = some x,
   fun i H v H' => ∃ T x, v = .ref T ∧ H T = none ∧ H' = upd H T (.tup [.int (i : Nat), x]) ∧ ∀ xs, SqT K H a xs → xs[i]? = some x,
   fun i H => ∃ xs : List V, SqT K H a xs ∧ xs.length ≤ i⟩
theorem turn_enumT {P : Program} {w : World} {K : PySem.W.Frag} {elts : List Expr} {kk : Nat} {tpos : Pos} (a e it : Addr) (h1 : e ≠ it) (h2 : a ≠ it) (h3 : a ≠ e) :
    Turn P w K (.Tuple elts kk tpos) (IteT K a) [e, it] e (fun i h => (∃ old, IsEnum h e it ((i : Nat) : Int) old) ∧ h.IsTupleIter it a i) where
  mem := by simp
  obj := fun i h st b hb => by
    obtain ⟨⟨old, he⟩, o, ho, hc, hd⟩ := st
    have q : b = e ∨ b = it := by simpa using hb
    rcases q with q | q
    · rw [q]
      exact ⟨_, he, fun v z => nomatch z⟩
    · rw [q]
      exact ⟨o, ho, fun v z => by
        rw [hd] at z
        cases z⟩
  keep := fun i h h' st k => by
    obtain ⟨⟨old, he⟩, hi⟩ := st
    exact ⟨⟨old, k e (by simp) _ he⟩, hi.at fun o z => k it (by simp) o z⟩
  item := by
    intro X hP hw hK hc i pins s σ H E I hf st hg
    subst hP hw hK
    obtain ⟨⟨old, he⟩, hit⟩ := st
    obtain ⟨xs, x, hq, hx⟩ := hg
    obtain ⟨its, rv, p, _⟩ := I.tuple hq
    obtain ⟨u, hu, ru⟩ := rv.get hx
    have le : e < s.heap.objs.size := Heap.lt_size he
    have li : it < s.heap.objs.size := by
      obtain ⟨_, z, _⟩ := hit
      exact Heap.lt_size z
    have lt : i < its.toArray.size := by
      have z := (List.getElem?_eq_some_iff.mp hu).1
      simpa using z
    have hh : X.A.in1.handled = none := I.ok.hd hc
    refine wpAny_pyNext_enum_itemD (Draws.tuple hh it a h2 its.toArray) he ⟨hit, p⟩ lt h1 (by simp [h1, Ne.symm h3]) fun u' h' tk hP ho hst hT hsz hk => ?_
    obtain rfl : u = u' := by
      have z : its[i]? = some u' := by simpa using hP
      rw [hu] at z
      exact Option.some.inj z
    refine ⟨_, rfl, wpAny_letOwnedTupleGo_enum (s := { s with heap := h', toks := tk + 1 }) ho fun h'' he' sb => ?_⟩
    have hT2 : h''.get? s.heap.objs.size = some { cls := .type "tuple", data := .seq #[.int i tk, u] } := (sb.2 _ (Nat.ne_of_gt le)).trans hT
    have new : ObjOk X.prog X.w (upd H s.heap.objs.size (.tup [.int (i : Nat), x])) h'' s.heap.objs.size (.tup [.int (i : Nat), x]) :=
      ⟨by show 2 ≤ sizeLine; decide, [.int i tk, u], .cons ⟨_, rfl⟩ (.cons ru .nil), ⟨_, hT2, rfl, _, rfl⟩⟩
    have I1 : Inv X pins σ (upd H s.heap.objs.size (.tup [.int (i : Nat), x])) { s with heap := h'', toks := tk + 1 } := by
      refine I.turnedNew (ch := [e, it]) (fun b ob hb q => ?_) hf (Nat.le_refl _) new
      have be : b ≠ e := fun z => hb (by simp [z])
      have bi : b ≠ it := fun z => hb (by simp [z])
      exact (sb.2 b be).trans (hk b ob be bi q)
    refine ⟨.ref s.heap.objs.size, _, I1, rfl, ⟨_, x, rfl, I.hok.fresh (Nat.le_refl _), rfl, fun ys hy => by rw [I.tuple_inj hy hq]; exact hx⟩, ⟨⟨u, ?_⟩, hst.1.at fun o q => (sb.2 it (Ne.symm h1)).trans q⟩, fun b hb => ?_⟩
    · have z : ((i + 1 : Nat) : Int) = (i : Int) + 1 := by omega
      rw [z]
      exact he'
    · have lb : b < s.heap.objs.size := by
        have q : b = e ∨ b = it := by simpa using hb
        rcases q with q | q
        · rw [q]
          exact le
        · rw [q]
          exact li
      rw [upd_ne (Nat.ne_of_lt lb)]
      exact (hf b hb).1
  done := by
    intro X hP hw hK hc i pins s σ H E I hf st hg
    subst hP hw hK
    obtain ⟨⟨old, he⟩, hit⟩ := st
    obtain ⟨xs, hq, hx⟩ := hg
    obtain ⟨its, rv, p, _⟩ := I.tuple hq
    obtain ⟨f0, f1, f2, f3, f4, f5⟩ := hf it (by simp)
    have hl := rv.length
    have hT : s.TypeIs (.ref e) "enumerate" := ⟨_, he, rfl⟩
    unfold pyNext
    refine wpAny_bind (wpAny_attempt (wpAny_callSpecial?_slot (name := Str.ofString "__next__") hT F.slot_enumerate_next
      (wpAny_call_entry F.slot_enumerate_next hT F.entry_enumerate_next ?_ (F.args_enumerate_next_1 _))))
    show wpAny _ _ (field (.ref e) 2 >>= _) _ _ _
    refine wpAny_bind (wpAny_field he rfl (x := .ref it) rfl ?_)
    have hh : X.A.in1.handled = none := I.ok.hd hc
    refine wpAny_bind (wpAny_nextOf_tuple_end hh hit p (by simp; omega) fun h' x eb hx' => ?_)
    obtain ⟨o, ho, hcl⟩ := hx'
    refine wpAny_bind (wpAny_isInstance (T := "StopIteration") (b := true) ⟨o, ho, hcl⟩ isSubtype_stop ?_)
    exact wpAny_pure ⟨rfl, I.turned (t' := s.toks) (fun b o hb q => eb b o hb q) f0 f1 f3 f4 f5⟩
  self := fun A i s Q E st h => let ⟨⟨_, he⟩, _⟩ := st; wpAny_pyIter_enum he h
def iEnumT (K : PySem.W.Frag) (ta : TA) : TI := fun σ H R => ta σ H fun vs H1 => ∃ a xs, vs = [.ref a] ∧ SqT K H1 a xs ∧ R (IteT K a) H1
theorem pi_enumT {X : Cx} {e : Expr} {ta : TA} {p pos tpos : Pos} {elts : List Expr} {kk : Nat} (hg : Gl X "enumerate") (hm : X.mg "enumerate" = none) (ha : PA X [e] ta) (hs : starEach [e] X.env = [(false, eval e X.env)] := by rfl) :
    PI X (.Tuple elts kk tpos) (.Call (.Name "enumerate" p) [e] [] pos) (iEnumT X.K ta) := by
  refine ⟨fun pins s σ H R I h => ?_⟩
  refine Call_ (ld_blt I hg hm boot_enumerate (PyProof.Rows.callWith_type1 (thn (ha.run pos pins s σ H _ I h) fun us s1 ⟨vs, H1, I1, r1, q1⟩ => ?_) hs rfl))
  obtain ⟨a, xs, ex, hq, q⟩ := q1
  subst ex
  cases r1 with
  | cons r rr =>
    cases rr
    cases r
    obtain ⟨its, rv, p', _⟩ := I1.tuple hq
    have la : a < s1.heap.objs.size := by
      obtain ⟨o, ho, _⟩ := id p'
      exact Heap.lt_size ho
    refine enum1_call (begins_tuple a its.toArray) p' fun h' he hit hsz hk => wpAny_pyIter_enum he ?_
    have I2 : Inv X pins σ H1 { s1 with heap := h' } := I1.kept (t' := s1.toks) hk
    refine ⟨s1.heap.objs.size + 1, [s1.heap.objs.size + 1, s1.heap.objs.size], _, _, H1, rfl, I2, turn_enumT a (s1.heap.objs.size + 1) s1.heap.objs.size (Nat.succ_ne_self _) (Nat.ne_of_lt la) (Nat.ne_of_lt (Nat.lt_succ_of_lt la)), ⟨⟨.none, he⟩, ⟨_, hit, rfl, rfl⟩⟩, fun b hb => ?_, q⟩
    have hle : s1.heap.objs.size ≤ b := by
      have q : b = s1.heap.objs.size + 1 ∨ b = s1.heap.objs.size := by simpa using hb
      rcases q with q | q
      · rw [q]
        exact Nat.le_succ _
      · rw [q]
        exact Nat.le_refl _
    exact I1.fpOk hle (I1.hok.fresh hle)
theorem walk_enumT {K : PySem.W.Frag} {a : Addr} {xs : List V} : Walk (IteT K a) xs.length (fun H => SqT K H a xs) (YPair (fun i => some (.int (i : Nat))) (fun i => xs[i]?)) := by
  refine ⟨fun i _ hi q => ⟨xs, xs[i], q, by simp [hi]⟩, fun _ q => ⟨xs, q, Nat.le_refl _⟩, fun i H v H' _ q y => ?_⟩
  obtain ⟨T, x, h1, h2, h3, h4⟩ := y
  exact ⟨T, .int (i : Nat), x, h1, h2, h3, rfl, h4 xs q⟩
end ZE

namespace Z
open PySem PySem.Spec PyProof.Rows L2
section
variable {K : PySem.W.Frag} {g : TG} {te tl : TE} {vs : List Nat} {σ : L2.St} {H : Hp} {Q : VK} {a : Addr} {xs : List V}
/-- [e for x in t], t a tuple, over lists that may change -/
theorem lcT (ht : ∀ R : VK, R (.ref a) H → tl σ H R) (hS : SqT K H a xs) (hn : xs.length ≤ 90000) (m : Addr → Prop) (I : Hp → Prop) (R : Nat → V → Hp → Prop)
    (hm : ∀ b, m b → H b ≠ none) (hI : I H) (hIu : ∀ H' D o, H D = none → Gr m H H' → I H' → I (upd H' D o)) (hR : ∀ i y H' H'', R i y H' → Gr any H' H'' → R i y H'')
    (hs : ∀ (i : Nat) (x : V) (H' : Hp) (Q' : VK), xs[i]? = some x → Gr m H H' → I H' → (∀ y H3, Gr m H' H3 → I H3 → R i y H3 → Q' y H3) → g x (wipe σ vs) H' fun σ2 H2 => wipe σ2 vs = wipe σ vs ∧ te σ2 H2 Q')
    (k : ∀ D ys H', H D = none → Gr m H H' → I H' → H' D = some (.lst ys) → ys.length = xs.length → (∀ i y, ys[i]? = some y → R i y H') → Q (.ref D) H') : tLc (iTup K tl) g tYes te vs σ H Q :=
  ht _ ⟨a, rfl, ⟨xs, hS⟩, lc_all (H := H) walk_tup m I R hn (fun H' e => e.seqT hS) hm hI hIu hR (fun i x H' H'' Q' hi g1 g2 ⟨e, hx⟩ q => by
    subst e
    exact hs i x _ Q' hx g1 g2 q) k⟩
theorem lcL (ht : ∀ R : VK, R (.ref a) H → tl σ H R) (hS : SqL K H a xs) (hn : xs.length ≤ 90000) (m : Addr → Prop) (ha : ¬ m a) (I : Hp → Prop) (R : Nat → V → Hp → Prop)
    (hm : ∀ b, m b → H b ≠ none) (hI : I H) (hIu : ∀ H' D o, H D = none → Gr m H H' → I H' → I (upd H' D o)) (hR : ∀ i y H' H'', R i y H' → Gr any H' H'' → R i y H'')
    (hs : ∀ (i : Nat) (x : V) (H' : Hp) (Q' : VK), xs[i]? = some x → Gr m H H' → I H' → (∀ y H3, Gr m H' H3 → I H3 → R i y H3 → Q' y H3) → g x (wipe σ vs) H' fun σ2 H2 => wipe σ2 vs = wipe σ vs ∧ te σ2 H2 Q')
    (k : ∀ D ys H', H D = none → Gr m H H' → I H' → H' D = some (.lst ys) → ys.length = xs.length → (∀ i y, ys[i]? = some y → R i y H') → Q (.ref D) H') : tLc (iList K tl) g tYes te vs σ H Q :=
  ht _ ⟨a, rfl, ⟨xs, hS⟩, lc_all (H := H) walk_list m I R hn (fun H' e => e.seqL hS ha) hm hI hIu hR (fun i x H' H'' Q' hi g1 g2 ⟨e, hx⟩ q => by
    subst e
    exact hs i x _ Q' hx g1 g2 q) k⟩
/-- nothing changes, each element told by its place -/
theorem lcT0 (ht : ∀ R : VK, R (.ref a) H → tl σ H R) (hS : SqT K H a xs) (hn : xs.length ≤ 90000) (R : Nat → V → Hp → Prop) (hR : ∀ i y H' H'', R i y H' → Gr any H' H'' → R i y H'')
    (hs : ∀ (i : Nat) (x : V) (H' : Hp) (Q' : VK), xs[i]? = some x → Ex H H' → (∀ y H3, Ex H' H3 → R i y H3 → Q' y H3) → g x (wipe σ vs) H' fun σ2 H2 => wipe σ2 vs = wipe σ vs ∧ te σ2 H2 Q')
    (k : ∀ D ys H', H D = none → Ex H H' → H' D = some (.lst ys) → ys.length = xs.length → (∀ i y, ys[i]? = some y → R i y H') → Q (.ref D) H') : tLc (iTup K tl) g tYes te vs σ H Q :=
  lcT ht hS hn nob (fun _ => True) R (fun _ q => q.elim) trivial (fun _ _ _ _ _ _ => trivial) hR (fun i x H' Q' h1 h2 _ q => hs i x H' Q' h1 h2 fun y H3 e r => q y H3 e trivial r) fun D ys H' h1 h2 _ h3 h4 h5 => k D ys H' h1 h2 h3 h4 h5
theorem lcL0 (ht : ∀ R : VK, R (.ref a) H → tl σ H R) (hS : SqL K H a xs) (hn : xs.length ≤ 90000) (R : Nat → V → Hp → Prop) (hR : ∀ i y H' H'', R i y H' → Gr any H' H'' → R i y H'')
    (hs : ∀ (i : Nat) (x : V) (H' : Hp) (Q' : VK), xs[i]? = some x → Ex H H' → (∀ y H3, Ex H' H3 → R i y H3 → Q' y H3) → g x (wipe σ vs) H' fun σ2 H2 => wipe σ2 vs = wipe σ vs ∧ te σ2 H2 Q')
    (k : ∀ D ys H', H D = none → Ex H H' → H' D = some (.lst ys) → ys.length = xs.length → (∀ i y, ys[i]? = some y → R i y H') → Q (.ref D) H') : tLc (iList K tl) g tYes te vs σ H Q :=
  lcL ht hS hn nob id (fun _ => True) R (fun _ q => q.elim) trivial (fun _ _ _ _ _ _ => trivial) hR (fun i x H' Q' h1 h2 _ q => hs i x H' Q' h1 h2 fun y H3 e r => q y H3 e trivial r) fun D ys H' h1 h2 _ h3 h4 h5 => k D ys H' h1 h2 h3 h4 h5
theorem ext_of {ys zs : List V} (hl : ys.length = zs.length) (h : ∀ (i : Nat) (y : V), ys[i]? = some y → zs[i]? = some y) : ys = zs := by
  refine List.ext_getElem? fun i => ?_
  by_cases hi : i < ys.length
  · rw [h i ys[i] (List.getElem?_eq_getElem hi), List.getElem?_eq_getElem hi]
  · rw [List.getElem?_eq_none (by omega), List.getElem?_eq_none (by omega)]
/-- the elements are those of a known list -/
theorem lcTf (ht : ∀ R : VK, R (.ref a) H → tl σ H R) (hS : SqT K H a xs) (hn : xs.length ≤ 90000) (zs : List V) (hz : zs.length = xs.length)
    (hs : ∀ (i : Nat) (x z : V) (H' : Hp) (Q' : VK), xs[i]? = some x → zs[i]? = some z → Ex H H' → (∀ H3, Ex H' H3 → Q' z H3) → g x (wipe σ vs) H' fun σ2 H2 => wipe σ2 vs = wipe σ vs ∧ te σ2 H2 Q')
    (k : ∀ D H', H D = none → Ex H H' → H' D = some (.lst zs) → Q (.ref D) H') : tLc (iTup K tl) g tYes te vs σ H Q := by
  refine lcT0 ht hS hn (fun i y _ => zs[i]? = some y) (fun _ _ _ _ q _ => q) (fun i x H' Q' hx e q => ?_) fun D ys H' hD e h1 h2 h3 => ?_
  · have hi : i < zs.length := by
      rw [hz]
      exact (List.getElem?_eq_some_iff.mp hx).1
    exact hs i x zs[i] H' Q' hx (List.getElem?_eq_getElem hi) e fun H3 e3 => q _ H3 e3 (List.getElem?_eq_getElem hi)
  · rw [ext_of (h2.trans hz.symm) h3] at h1
    exact k D H' hD e h1
theorem lcLf (ht : ∀ R : VK, R (.ref a) H → tl σ H R) (hS : SqL K H a xs) (hn : xs.length ≤ 90000) (zs : List V) (hz : zs.length = xs.length)
    (hs : ∀ (i : Nat) (x z : V) (H' : Hp) (Q' : VK), xs[i]? = some x → zs[i]? = some z → Ex H H' → (∀ H3, Ex H' H3 → Q' z H3) → g x (wipe σ vs) H' fun σ2 H2 => wipe σ2 vs = wipe σ vs ∧ te σ2 H2 Q')
    (k : ∀ D H', H D = none → Ex H H' → H' D = some (.lst zs) → Q (.ref D) H') : tLc (iList K tl) g tYes te vs σ H Q := by
  refine lcL0 ht hS hn (fun i y _ => zs[i]? = some y) (fun _ _ _ _ q _ => q) (fun i x H' Q' hx e q => ?_) fun D ys H' hD e h1 h2 h3 => ?_
  · have hi : i < zs.length := by
      rw [hz]
      exact (List.getElem?_eq_some_iff.mp hx).1
    exact hs i x zs[i] H' Q' hx (List.getElem?_eq_getElem hi) e fun H3 e3 => q _ H3 e3 (List.getElem?_eq_getElem hi)
  · rw [ext_of (h2.trans hz.symm) h3] at h1
    exact k D H' hD e h1
/-- [x for x in l if t] -/
theorem lcFilt {tt : TT} {j : Nat} (ht : ∀ R : VK, R (.ref a) H → tl σ H R) (hS : SqL K H a xs) (hn : xs.length ≤ 90000) (hj : j < σ.length) (p : V → Bool)
    (hs : ∀ (x : V) (H' : Hp) (F : Bool → Hp → Prop), x ∈ xs → Ex H H' → (∀ H3, Ex H' H3 → F (p x) H3) → tt ((wipe σ [j]).set j (some x)) H' F)
    (k : ∀ D H', H D = none → Ex H H' → H' D = some (.lst (xs.filter p)) → Q (.ref D) H') : tLc (iList K tl) (gName j) tt (tVar j) [j] σ H Q := by
  refine ht _ ⟨a, rfl, ⟨xs, hS⟩, fun D hD => lc_it walk_list (fun i H' => Ex H H' ∧ H' D = some (.lst ((xs.take i).filter p))) ⟨.new hD, upd_same⟩ (fun i H' _ q => q.1.seqL hS id) ?_ ?_⟩
  · rintro i x H' H'' hi ⟨q1, q2⟩ ⟨e, hx⟩
    subst e
    have hjl : j < (wipe σ [j]).length := by
      rw [wipe_length]
      exact hj
    refine ⟨?_, ?_⟩
    · show ((wipe σ []).set j none |>.set j (some x)).set j none = (wipe σ []).set j none
      rw [List.set_set, List.set_set]
    · have et : xs.take (i + 1) = xs.take i ++ [x] := by
        rw [List.take_add_one, hx]
        rfl
      refine hs x _ _ (List.mem_of_getElem? hx) q1 fun H3 e3 => ?_
      have e4 := e3.get q2
      cases hp : p x
      · refine iteF ⟨q1.trans e3, ?_⟩
        rw [et, List.filter_append, List.filter_cons, hp]
        simpa using e4
      · refine iteT ⟨x, List.getElem?_set_self hjl, _, e4, smallt ?_, (q1.trans e3).put e4 (.inl hD), ?_⟩
        · have h1 := List.length_filter_le p (xs.take i)
          rw [List.length_take] at h1
          omega
        · rw [upd_same, et, List.filter_append, List.filter_cons, hp]
          rfl
  · rintro H' ⟨q1, q2⟩
    rw [List.take_length] at q2
    exact k D H' hD q1 q2
end
abbrev rLenQ (K : PySem.W.Frag) : List V → Hp → VK → Prop := fun xs H Q => ∃ p ys, xs = [.ref p] ∧ (SqL K H p ys ∨ SqT K H p ys) ∧ Q (.int ys.length) H
abbrev rTupOf (K : PySem.W.Frag) : List V → Hp → VK → Prop := fun xs H Q => ∃ p ys, xs = [.ref p] ∧ ((SqL K H p ys ∧ ∀ l, H l = none → Q (.ref l) (upd H l (.tup ys))) ∨ (SqT K H p ys ∧ Q (.ref p) H))
section
variable {K : PySem.W.Frag} {H : Hp}
theorem DTs.len {xs : List V} {ds : List D} (h : DTs K H xs ds) : xs.length = ds.length := by
  induction ds generalizing xs with
  | nil => cases h; rfl
  | cons d ds ih =>
    cases h with
    | cons h1 h2 => rw [List.length_cons, List.length_cons, ih h2]
theorem DTs.get {xs : List V} {ds : List D} (h : DTs K H xs ds) {i : Nat} {x : V} (hx : xs[i]? = some x) : ∃ d, ds[i]? = some d ∧ DT K H x d := by
  induction ds generalizing xs i with
  | nil => cases h; simp at hx
  | cons d ds ih =>
    cases h with
    | cons h1 h2 =>
      cases i with
      | zero =>
        cases hx
        exact ⟨d, rfl, h1⟩
      | succ i => exact ih h2 (i := i) (by simpa using hx)
theorem DTs.three {xs : List V} {l : List D} (h : DTs K H xs l) (hn : xs.length = 3) : ∃ x1 x2 x3 d1 d2 d3, xs = [x1, x2, x3] ∧ l = [d1, d2, d3] ∧ DT K H x1 d1 ∧ DT K H x2 d2 ∧ DT K H x3 d3 := by
  cases h with
  | nil => cases hn
  | cons h1 h =>
    cases h with
    | nil => cases hn
    | cons h2 h =>
      cases h with
      | nil => cases hn
      | cons h3 h =>
        cases h with
        | nil => exact ⟨_, _, _, _, _, _, rfl, rfl, h1, h2, h3⟩
        | cons h4 h =>
          simp at hn
theorem DTs.strs {xs : List V} {ss : List Str} (h : DTs K H xs (ss.map D.str)) : xs = ss.map V.str := by
  induction ss generalizing xs with
  | nil => cases h; rfl
  | cons s ss ih =>
    cases h with
    | cons h1 h2 =>
      cases h1
      rw [ih h2]
      rfl
theorem DTs.ofStrs (ss : List Str) : DTs K H (ss.map V.str) (ss.map D.str) := by
  induction ss with
  | nil => exact .nil
  | cons s ss ih => exact .cons (.str s) ih
theorem DTs.ofInts (ns : List Int) : DTs K H (ns.map V.int) (ns.map D.int) := by
  induction ns with
  | nil => exact .nil
  | cons s ss ih => exact .cons (.int s) ih
theorem DTs.ints {xs : List V} {ns : List Int} (h : DTs K H xs (ns.map D.int)) : xs = ns.map V.int := by
  induction ns generalizing xs with
  | nil => cases h; rfl
  | cons s ss ih =>
    cases h with
    | cons h1 h2 =>
      cases h1
      rw [ih h2]
      rfl
end
end Z
namespace Z
open PySem PySem.Spec PyProof.Rows L2
section
variable {K : PySem.W.Frag} {H : Hp}
theorem dp_strs (ss : List Str) : DpAll K H (ss.map V.str) (ss.map PyData.str) := by
  induction ss with
  | nil => exact .nil
  | cons s ss ih => exact .cons (.str s) ih
end
theorem eqv_strs : ∀ ss ts : List Str, PyData.eqvAll (ss.map PyData.str) (ts.map PyData.str) = decide (ss = ts)
  | [], [] => by simp [PyData.eqvAll]
  | [], _ :: _ => by simp [PyData.eqvAll]
  | _ :: _, [] => by simp [PyData.eqvAll]
  | s :: ss, t :: ts => by
    simp only [List.map_cons, PyData.eqvAll, PyData.eqv]
    rw [eqv_strs ss ts]
    by_cases h : s = t
    · subst h
      simp
    · simp [h]
theorem lay_strs : ∀ {ss : List Str}, (∀ s ∈ ss, PyData.strOk s = true) → PyData.canLayAll0 (ss.map PyData.str) = true
  | [], _ => rfl
  | s :: ss, h => by
    simp only [List.map_cons, PyData.canLayAll0, PyData.canLay0, Bool.and_eq_true]
    exact ⟨h s (List.mem_cons_self ..), lay_strs fun t ht => h t (List.mem_cons_of_mem _ ht)⟩
theorem depth_strs : ∀ ss : List Str, PyData.depthAll (ss.map PyData.str) = 0
  | [] => rfl
  | s :: ss => by
    simp only [List.map_cons, PyData.depthAll, PyData.depth]
    rw [depth_strs ss]
    rfl
theorem shaped_strs {ss : List Str} (h : ∀ s ∈ ss, PyData.strOk s = true) : SeqAt.shaped (.tuple (ss.map PyData.str)) = true := by
  unfold SeqAt.shaped
  rw [Bool.and_eq_true]
  refine ⟨by simp only [PyData.canLay0]; exact lay_strs h, decide_eq_true ?_⟩
  simp only [PyData.depth]
  rw [depth_strs]
  decide
theorem strOk_of {s : Str} (h : nameOk s = true) : PyData.strOk s = true := by
  unfold nameOk at h
  rw [Bool.and_eq_true] at h
  have h2 := h.2
  unfold PyData.strOk
  rw [← Array.all_toList, List.all_eq_true]
  intro c hc
  have h3 := List.all_eq_true.mp h2 c hc
  unfold lowdig lower at h3
  simp only [Bool.or_eq_true, Bool.and_eq_true, decide_eq_true_eq] at h3
  simp only [decide_eq_true_eq]
  omega
theorem inV_strs (s : Str) (ss : List Str) : inV (.str s) (ss.map V.str) = decide (s ∈ ss) := by
  induction ss with
  | nil => rfl
  | cons t ss ih =>
    have e : inV (.str s) ((t :: ss).map V.str) = (eqV (.str t) (.str s) || inV (.str s) (ss.map V.str)) := rfl
    rw [e, ih]
    have e2 : eqV (.str t) (.str s) = (t == s) := rfl
    rw [e2]
    by_cases h : t = s
    · subst h
      simp
    · simp [h, Ne.symm h]
theorem flat_strs (ss : List Str) : (ss.map V.str).all flatV = true := by
  rw [List.all_eq_true]
  intro v hv
  obtain ⟨s, _, rfl⟩ := List.mem_map.mp hv
  rfl
theorem filter_strs (p : V → Bool) (ss : List Str) : (ss.map V.str).filter p = (ss.filter fun s => p (.str s)).map V.str := by
  rw [List.filter_map]
  rfl
end Z

namespace Z
open PySem PySem.Spec PyProof.Rows L2 ZE
section
variable {K : PySem.W.Frag} {g : TG} {tb : TS} {tl : TE} {ta : TA} {Dn : Ends} {σ : L2.St} {H : Hp} {a : Addr} {xs : List V}
/-! ### loops -/
theorem forE (ht : ∀ R : List V → Hp → Prop, R [.ref a] H → ta σ H R) (hS : SqT K H a xs) (Pv : Nat → L2.St → Hp → Prop) (h0 : Pv 0 σ H) (hG : ∀ i σ' H', Pv i σ' H' → SqT K H' a xs)
    (hs : ∀ (i : Nat) (x : V) T σ' H', xs[i]? = some x → Pv i σ' H' → H' T = none → g (.ref T) σ' (upd H' T (.tup [.int (i : Int), x])) fun σ2 H2 => tb { Dn with nx := Pv (i + 1), ct := Pv (i + 1), bk := Dn.nx } σ2 H2)
    (hd : ∀ σ' H', Pv xs.length σ' H' → Dn.nx σ' H') : tFor (iEnumT K ta) g tb Dn σ H :=
  ht _ ⟨a, xs, rfl, hS, for_it walk_enumT Pv h0 (fun i σ' H' _ p => hG i σ' H' p) (fun i x σ' H' H'' hi p y => by
    obtain ⟨T, u, v, rfl, hT, rfl, h1, h2⟩ := y
    cases h1
    exact hs i v T σ' H' h2 p hT) hd⟩
theorem forTp (ht : ∀ R : VK, R (.ref a) H → tl σ H R) (hS : SqT K H a xs) (Pv : Nat → L2.St → Hp → Prop) (h0 : Pv 0 σ H) (hG : ∀ i σ' H', Pv i σ' H' → SqT K H' a xs)
    (hs : ∀ (i : Nat) (x : V) σ' H', xs[i]? = some x → Pv i σ' H' → g x σ' H' fun σ2 H2 => tb { Dn with nx := Pv (i + 1), ct := Pv (i + 1), bk := Dn.nx } σ2 H2)
    (hd : ∀ σ' H', Pv xs.length σ' H' → Dn.nx σ' H') : tFor (iTup K tl) g tb Dn σ H :=
  ht _ ⟨a, rfl, ⟨xs, hS⟩, for_tup Pv h0 (fun i σ' H' _ p => hG i σ' H' p) (fun i x σ' H' hx p => hs i x σ' H' hx p) hd⟩
theorem forLs (ht : ∀ R : VK, R (.ref a) H → tl σ H R) (hS : SqL K H a xs) (Pv : Nat → L2.St → Hp → Prop) (h0 : Pv 0 σ H) (hG : ∀ i σ' H', Pv i σ' H' → SqL K H' a xs)
    (hs : ∀ (i : Nat) (x : V) σ' H', xs[i]? = some x → Pv i σ' H' → g x σ' H' fun σ2 H2 => tb { Dn with nx := Pv (i + 1), ct := Pv (i + 1), bk := Dn.nx } σ2 H2)
    (hd : ∀ σ' H', Pv xs.length σ' H' → Dn.nx σ' H') : tFor (iList K tl) g tb Dn σ H :=
  ht _ ⟨a, rfl, ⟨xs, hS⟩, for_list Pv h0 (fun i σ' H' _ p => hG i σ' H' p) (fun i x σ' H' hx p => hs i x σ' H' hx p) hd⟩
theorem forSt {z : Str} (ht : ∀ R : VK, R (.str z) H → tl σ H R) (Pv : Nat → L2.St → Hp → Prop) (h0 : Pv 0 σ H)
    (hs : ∀ (i c : Nat) σ' H', z.cps.toList[i]? = some c → Pv i σ' H' → g (.str ⟨#[c]⟩) σ' H' fun σ2 H2 => tb { Dn with nx := Pv (i + 1), ct := Pv (i + 1), bk := Dn.nx } σ2 H2)
    (hd : ∀ σ' H', Pv z.cps.toList.length σ' H' → Dn.nx σ' H') : tFor (iStr tl) g tb Dn σ H :=
  ht _ ⟨z, rfl, for_it walk_str Pv h0 (fun _ _ _ _ _ => trivial) (fun i x σ' H' H'' hi p y => by
    obtain ⟨rfl, c, h1, rfl⟩ := y
    exact hs i c σ' H'' (by rw [Array.getElem?_toList]; exact h1) p) fun σ' H' p => hd σ' H' (by rw [Array.length_toList]; exact p)⟩
/-- for i in range(n) -/
theorem forR {n : Int} (ht : ∀ R : List V → Hp → Prop, R [.int n] H → ta σ H R) (hn : 0 ≤ n ∧ n ≤ 100000) (Pv : Nat → L2.St → Hp → Prop) (h0 : Pv 0 σ H)
    (hs : ∀ (i : Nat) σ' H', (i : Int) < n → Pv i σ' H' → g (.int (i : Int)) σ' H' fun σ2 H2 => tb { Dn with nx := Pv (i + 1), ct := Pv (i + 1), bk := Dn.nx } σ2 H2)
    (hd : ∀ σ' H', Pv n.toNat σ' H' → Dn.nx σ' H') : tFor (iRng1 ta) g tb Dn σ H :=
  ht _ ⟨n, rfl, by omega, by omega, for_range (lo := 0) (n := n.toNat) Pv h0 (fun i σ' H' hi p => by
    have e0 : (0 : Int) + (i : Int) = (i : Int) := Int.zero_add _
    rw [e0]
    exact hs i σ' H' (by omega) p) hd⟩
/-! ### slices -/
theorem cut_take (i : Nat) : cutV xs none (some (i : Int)) = xs.take i := by
  unfold cutV
  rw [show HT.sIx xs.length xs.length (some (i : Int)) = min i xs.length from HT.sIx_nat xs.length xs.length i, HT.sIx_none]
  rw [List.drop_zero, Nat.sub_zero]
  by_cases h : i ≤ xs.length
  · rw [Nat.min_eq_left h]
  · rw [Nat.min_eq_right (by omega), List.take_length, List.take_of_length_le (by omega)]
theorem slA_take {Q : VK} {i : Nat} (hS : SqT K H a xs) (k : ∀ p H', Ex H H' → SqT K H' p (xs.take i) → Q (.ref p) H') : rSlA K (.ref a) none (some (i : Int)) H Q := by
  refine ⟨a, xs, rfl, hS, fun h => ?_, fun _ p hp => ?_⟩
  · have e : cutV xs none (some (i : Int)) = xs := by
      unfold cutV
      rw [h.1, h.2, List.drop_zero, Nat.sub_zero, List.take_length]
    rw [cut_take] at e
    exact k a H .refl (by rw [e]; exact hS)
  · rw [cut_take]
    exact k p _ (.new hp) (sqT upd_same)
end
/-! ### orders as data -/
structure Kd where
  n : Str
  c : Int
  w : List Int
structure Pn where
  n : Str
  s : Int
  r : List Str
def Kd.d (k : Kd) : D := .tup [.str k.n, .int k.c, .tup (k.w.map D.int)]
def Pn.d (p : Pn) : D := .tup [.str p.n, .int p.s, .tup (p.r.map D.str)]
structure Kd.ok (m : Nat) (k : Kd) : Prop where
  n : nameOk k.n = true
  c : 1 ≤ k.c ∧ k.c ≤ 3
  l : k.w.length = m
  w : ∀ x ∈ k.w, 0 ≤ x ∧ x ≤ 6
structure Pn.ok (ks : List Str) (p : Pn) : Prop where
  n : nameOk p.n = true
  s : 1 ≤ p.s ∧ p.s ≤ 3
  r : p.r = ks.filter fun k => decide (k ∈ p.r)
structure Od where
  ms : List Str
  ks : List Kd
  ps : List Pn
structure Od.ok (o : Od) : Prop where
  m1 : 1 ≤ o.ms.length ∧ o.ms.length ≤ 2
  m2 : ∀ s ∈ o.ms, nameOk s = true
  m3 : o.ms.Nodup
  k1 : 1 ≤ o.ks.length ∧ o.ks.length ≤ 4
  k2 : ∀ k ∈ o.ks, Kd.ok o.ms.length k
  k3 : (o.ks.map Kd.n).Nodup
  p1 : 2 ≤ o.ps.length ∧ o.ps.length ≤ 3
  p2 : o.ms.length = 2 → o.ps.length = 2
  p3 : ∀ p ∈ o.ps, Pn.ok (o.ks.map Kd.n) p
  p4 : (o.ps.map Pn.n).Nodup
end Z
namespace Z
open PySem PySem.Spec PyProof.Rows L2 ZE
section
variable {K : PySem.W.Frag} {H : Hp}
theorem DT.tri {x : V} {a b c : D} (h : DT K H x (.tup [a, b, c])) : ∃ p u v w, x = .ref p ∧ SqT K H p [u, v, w] ∧ DT K H u a ∧ DT K H v b ∧ DT K H w c := by
  cases h with
  | tup hS hs =>
    cases hs with
    | cons h1 hs =>
      cases hs with
      | cons h2 hs =>
        cases hs with
        | cons h3 hs =>
          cases hs
          exact ⟨_, _, _, _, rfl, hS, h1, h2, h3⟩
theorem DT.kd {x : V} {k : Kd} (h : DT K H x k.d) : ∃ p b, x = .ref p ∧ SqT K H p [.str k.n, .int k.c, .ref b] ∧ SqT K H b (k.w.map V.int) := by
  obtain ⟨p, u, v, w, rfl, h1, h2, h3, h4⟩ := DT.tri (show DT K H x (.tup [.str k.n, .int k.c, .tup (k.w.map D.int)]) from h)
  cases h2
  cases h3
  cases h4 with
  | tup h5 h6 =>
    rw [h6.ints] at h5
    exact ⟨_, _, rfl, h1, h5⟩
theorem DT.pn {x : V} {p : Pn} (h : DT K H x p.d) : ∃ a b, x = .ref a ∧ SqT K H a [.str p.n, .int p.s, .ref b] ∧ SqT K H b (p.r.map V.str) := by
  obtain ⟨a, u, v, w, rfl, h1, h2, h3, h4⟩ := DT.tri (show DT K H x (.tup [.str p.n, .int p.s, .tup (p.r.map D.str)]) from h)
  cases h2
  cases h3
  cases h4 with
  | tup h5 h6 =>
    rw [h6.strs] at h5
    exact ⟨_, _, rfl, h1, h5⟩
theorem DTs.getM {α : Type} {f : α → D} {xs : List V} {ks : List α} (h : DTs K H xs (ks.map f)) {i : Nat} {x : V} (hx : xs[i]? = some x) : ∃ k, ks[i]? = some k ∧ DT K H x (f k) := by
  obtain ⟨d, h1, h2⟩ := h.get hx
  rw [List.getElem?_map] at h1
  cases e : ks[i]? with
  | none =>
    rw [e] at h1
    cases h1
  | some k =>
    rw [e] at h1
    cases h1
    exact ⟨k, rfl, h2⟩
theorem DTs.lenM {α : Type} {f : α → D} {xs : List V} {ks : List α} (h : DTs K H xs (ks.map f)) : xs.length = ks.length := by
  rw [h.len, List.length_map]
end
theorem not_mem_take {ss : List Str} (hd : ss.Nodup) {i : Nat} {s : Str} (h : ss[i]? = some s) : s ∉ ss.take i := by
  intro hm
  obtain ⟨j, hj, e5⟩ := List.getElem_of_mem hm
  rw [List.length_take] at hj
  rw [List.getElem_take] at e5
  have hi : i < ss.length := (List.getElem?_eq_some_iff.mp h).1
  have e6 : ss[i] = s := (List.getElem?_eq_some_iff.mp h).2
  have e7 := (List.getElem_inj hd).mp (e5.trans e6.symm)
  omega
end Z
namespace Z
open PySem PySem.Spec PyProof.Rows L2 ZE
/-! ### texts of orders -/
abbrev num (i : Int) : Str := ((toString i : String) : Str)
theorem num_len {i : Int} (h : 0 ≤ i ∧ i ≤ 6) : (num i).length = 1 := by
  have h7 : i = 0 ∨ i = 1 ∨ i = 2 ∨ i = 3 ∨ i = 4 ∨ i = 5 ∨ i = 6 := by omega
  rcases h7 with rfl | rfl | rfl | rfl | rfl | rfl | rfl <;> decide +kernel
theorem app_len (a b : Str) : (a ++ b).length = a.length + b.length := by
  show (a.cps ++ b.cps).size = a.cps.size + b.cps.size
  exact Array.size_append
theorem empty_app (a : Str) : Str.empty ++ a = a := by
  show (⟨#[] ++ a.cps⟩ : Str) = a
  rw [Array.empty_append]
theorem app_assoc (a b c : Str) : a ++ b ++ c = a ++ (b ++ c) := by
  show (⟨a.cps ++ b.cps ++ c.cps⟩ : Str) = ⟨a.cps ++ (b.cps ++ c.cps)⟩
  rw [Array.append_assoc]
theorem sjoin_len (a : Str) : ∀ ys : List Str, (Str.join a ys).length ≤ (ys.map (·.length)).sum + ys.length * a.length
  | [] => by show 0 ≤ _; exact Nat.zero_le _
  | [x] => by
    show x.length ≤ ([x.length]).sum + 1 * a.length
    simp
  | x :: y :: r => by
    have ih := sjoin_len a (y :: r)
    have e : Str.join a (x :: y :: r) = x ++ a ++ Str.join a (y :: r) := rfl
    rw [e, app_len, app_len]
    simp only [List.map_cons, List.sum_cons, List.length_cons, Nat.add_mul, Nat.one_mul] at ih ⊢
    omega
theorem join_len (a : Str) (ys : List Str) : (Txt.join a ys).length ≤ (ys.map (·.length)).sum + ys.length * a.length := by
  rw [TL.join_eq]
  exact sjoin_len a ys
theorem sum_le {l : List Nat} {b : Nat} (h : ∀ x ∈ l, x ≤ b) : l.sum ≤ l.length * b := by
  induction l with
  | nil => simp
  | cons x l ih =>
    have h1 := h x (List.mem_cons_self ..)
    have h2 := ih fun y hy => h y (List.mem_cons_of_mem _ hy)
    rw [List.sum_cons, List.length_cons, Nat.add_mul, Nat.one_mul]
    omega
theorem join_le {a : Str} {ys : List Str} {n b : Nat} (hn : ys.length ≤ n) (h : ∀ y ∈ ys, y.length ≤ b) : (ys.map (·.length)).sum + ys.length * a.length ≤ n * (b + a.length) := by
  have h1 : (ys.map (·.length)).sum ≤ ys.length * b := by
    have h2 := sum_le (l := ys.map (·.length)) (b := b) fun x hx => by
      obtain ⟨y, hy, rfl⟩ := List.mem_map.mp hx
      exact h y hy
    rwa [List.length_map] at h2
  calc (ys.map (·.length)).sum + ys.length * a.length ≤ ys.length * b + ys.length * a.length := Nat.add_le_add_right h1 _
    _ = ys.length * (b + a.length) := by rw [Nat.mul_add]
    _ ≤ n * (b + a.length) := Nat.mul_le_mul_right _ hn
def rowM (ms : List Str) : Str := ("measure " : Str) ++ Txt.join (", " : Str) ms
def rowK (k : Kd) : Str := Str.empty ++ ("kind " : Str) ++ k.n ++ (" " : Str) ++ num k.c ++ (": " : Str) ++ Txt.join (", " : Str) (k.w.map num)
def rowP (p : Pn) : Str := if p.r = [] then Str.empty ++ ("person " : Str) ++ p.n ++ (" " : Str) ++ num p.s else Str.empty ++ ("person " : Str) ++ p.n ++ (" " : Str) ++ num p.s ++ (" without " : Str) ++ Txt.join (", " : Str) p.r
def Od.text (o : Od) : Str := Txt.join ("\n" : Str) (rowM o.ms :: (o.ks.map rowK ++ o.ps.map rowP))
theorem l_kind : ("kind " : Str).length = 5 := by decide +kernel
theorem l_person : ("person " : Str).length = 7 := by decide +kernel
theorem l_measure : ("measure " : Str).length = 8 := by decide +kernel
theorem l_blank : (" " : Str).length = 1 := by decide +kernel
theorem l_colon : (": " : Str).length = 2 := by decide +kernel
theorem l_comma : (", " : Str).length = 2 := by decide +kernel
theorem l_without : (" without " : Str).length = 9 := by decide +kernel
theorem l_line : ("\n" : Str).length = 1 := by decide +kernel
theorem l_empty : Str.empty.length = 0 := rfl
section
variable {o : Od} (h : o.ok)
include h
theorem Od.ms8 : ∀ s ∈ o.ms, s.length ≤ 8 := fun s hs => (nameOk_len (h.m2 s hs)).2
theorem Od.r_mem {p : Pn} (hp : p ∈ o.ps) : ∀ s ∈ p.r, s ∈ o.ks.map Kd.n := fun s hs => by
  have e := (h.p3 p hp).r
  rw [e] at hs
  exact (List.mem_filter.mp hs).1
theorem Od.r_len {p : Pn} (hp : p ∈ o.ps) : p.r.length ≤ 4 := by
  rw [(h.p3 p hp).r]
  have h1 := List.length_filter_le (fun k => decide (k ∈ p.r)) (o.ks.map Kd.n)
  rw [List.length_map] at h1
  have h2 := h.k1.2
  omega
theorem Od.r_ok {p : Pn} (hp : p ∈ o.ps) : ∀ s ∈ p.r, nameOk s = true := fun s hs => by
  obtain ⟨k, hk, rfl⟩ := List.mem_map.mp (Od.r_mem h hp s hs)
  exact (h.k2 k hk).n
theorem Od.joinM : (o.ms.map (·.length)).sum + o.ms.length * (", " : Str).length ≤ 20 := by
  have h1 := join_le (a := (", " : Str)) h.m1.2 (Od.ms8 h)
  rw [l_comma] at h1 ⊢
  omega
theorem Od.joinW {k : Kd} (hk : k ∈ o.ks) : ((k.w.map num).map (·.length)).sum + (k.w.map num).length * (", " : Str).length ≤ 6 := by
  have h1 := join_le (a := (", " : Str)) (ys := k.w.map num) (n := 2) (b := 1) (by rw [List.length_map, (h.k2 k hk).l]; exact h.m1.2) fun y hy => by
    obtain ⟨x, hx, rfl⟩ := List.mem_map.mp hy
    rw [num_len ((h.k2 k hk).w x hx)]
    exact Nat.le_refl _
  rw [l_comma] at h1 ⊢
  omega
theorem Od.joinR {p : Pn} (hp : p ∈ o.ps) : (p.r.map (·.length)).sum + p.r.length * (", " : Str).length ≤ 40 := by
  have h1 := join_le (a := (", " : Str)) (ys := p.r) (n := 4) (b := 8) (Od.r_len h hp) fun y hy => (nameOk_len (Od.r_ok h hp y hy)).2
  rw [l_comma] at h1 ⊢
  omega
theorem Od.lM : (rowM o.ms).length ≤ 100 := by
  unfold rowM
  rw [app_len, l_measure]
  have := join_len (", " : Str) o.ms
  have := Od.joinM h
  omega
theorem Od.lK {k : Kd} (hk : k ∈ o.ks) : (rowK k).length ≤ 100 := by
  unfold rowK
  rw [app_len, app_len, app_len, app_len, app_len, app_len, l_empty, l_kind, l_blank, l_colon]
  have h1 := join_len (", " : Str) (k.w.map num)
  have h2 := Od.joinW h hk
  have h3 := (nameOk_len (h.k2 k hk).n).2
  have h4 := num_len (i := k.c) (by have := (h.k2 k hk).c; omega)
  omega
theorem Od.lP {p : Pn} (hp : p ∈ o.ps) : (rowP p).length ≤ 100 := by
  unfold rowP
  have h1 := join_len (", " : Str) p.r
  have h2 := Od.joinR h hp
  have h3 := (nameOk_len (h.p3 p hp).n).2
  have h4 := num_len (i := p.s) (by have := (h.p3 p hp).s; omega)
  split
  · rw [app_len, app_len, app_len, app_len, l_empty, l_person, l_blank]
    omega
  · rw [app_len, app_len, app_len, app_len, app_len, app_len, l_empty, l_person, l_blank, l_without]
    omega
theorem Od.joinT : ((rowM o.ms :: (o.ks.map rowK ++ o.ps.map rowP)).map (·.length)).sum + (rowM o.ms :: (o.ks.map rowK ++ o.ps.map rowP)).length * ("\n" : Str).length ≤ 1000 := by
  have h1 := join_le (a := ("\n" : Str)) (ys := rowM o.ms :: (o.ks.map rowK ++ o.ps.map rowP)) (n := 8) (b := 100) (by
    rw [List.length_cons, List.length_append, List.length_map, List.length_map]
    have := h.k1.2
    have := h.p1.2
    omega) fun y hy => by
      rcases List.mem_cons.mp hy with rfl | hy
      · exact Od.lM h
      · rcases List.mem_append.mp hy with hy | hy
        · obtain ⟨k, hk, rfl⟩ := List.mem_map.mp hy
          exact Od.lK h hk
        · obtain ⟨p, hp, rfl⟩ := List.mem_map.mp hy
          exact Od.lP h hp
  rw [l_line] at h1 ⊢
  omega
end
end Z
namespace Z
open PySem PySem.Spec PyProof.Rows L2 ZE
/-! ### what is due -/
def worth (ks : List Kd) (j : Nat) : Int := (ks.map fun k => k.c * k.w.getD j 0).sum
def shares (ps : List Pn) : Int := (ps.map Pn.s).sum
def gcdI (t b : Int) : Int := ((Nat.gcd t.natAbs b.natAbs : Nat) : Int)
def lowest (t b : Int) : Int × Int := (t / gcdI t b, b / gcdI t b)
def pairD (q : Int × Int) : D := .tup [.int q.1, .int q.2]
def dueP (o : Od) (n : Int) (p : Pn) : List (Int × Int) := (List.range o.ms.length).map fun j => lowest (n * worth o.ks j * p.s) (shares o.ps)
def dueD (o : Od) (n : Int) : D := .tup (o.ps.map fun p => .tup ((dueP o n p).map pairD))
theorem gcdI_pos {t b : Int} (h : 0 < b) : 0 < gcdI t b := by
  unfold gcdI
  have : 0 < Nat.gcd t.natAbs b.natAbs := Nat.gcd_pos_of_pos_right _ (by omega)
  omega
theorem gcdI_le {t b : Int} (h : 0 < b) : gcdI t b ≤ b := by
  unfold gcdI
  have : Nat.gcd t.natAbs b.natAbs ≤ b.natAbs := Nat.gcd_le_right _ (by omega)
  omega
section
variable {K : PySem.W.Frag} {H : Hp}
theorem DTs.of {ys : List V} {ds : List D} (hl : ys.length = ds.length) (h : ∀ (i : Nat) (y : V), ys[i]? = some y → ∃ d, ds[i]? = some d ∧ DT K H y d) : DTs K H ys ds := by
  induction ys generalizing ds with
  | nil =>
    cases ds with
    | nil => exact .nil
    | cons d ds => cases hl
  | cons y ys ih =>
    cases ds with
    | nil => cases hl
    | cons d ds =>
      obtain ⟨d', h1, h2⟩ := h 0 y rfl
      cases h1
      exact .cons h2 (ih (Nat.succ.inj hl) fun i z hz => h (i + 1) z hz)
theorem DT.pair {x : V} {q : Int × Int} (h : DT K H x (pairD q)) : ∃ a, x = .ref a ∧ SqT K H a [.int q.1, .int q.2] := by
  cases h with
  | tup hS hs =>
    cases hs with
    | cons h1 hs =>
      cases hs with
      | cons h2 hs =>
        cases hs
        cases h1
        cases h2
        exact ⟨_, rfl, hS⟩
theorem DT.ofPair {a : Addr} {q : Int × Int} (h : SqT K H a [.int q.1, .int q.2]) : DT K H (.ref a) (pairD q) := .tup h (.cons (.int _) (.cons (.int _) .nil))
end
theorem worth_bound {ks : List Kd} {m : Nat} (h : ∀ k ∈ ks, Kd.ok m k) (hl : ks.length ≤ 4) (j : Nat) : 0 ≤ worth ks j ∧ worth ks j ≤ 100 := by
  have key : ∀ l : List Kd, (∀ k ∈ l, Kd.ok m k) → 0 ≤ worth l j ∧ worth l j ≤ 18 * l.length := by
    intro l
    induction l with
    | nil =>
      intro _
      exact ⟨Int.le_refl 0, Int.le_refl 0⟩
    | cons k l ih =>
      intro hk
      have h1 := ih fun x hx => hk x (List.mem_cons_of_mem _ hx)
      have h2 := hk k (List.mem_cons_self ..)
      have e : worth (k :: l) j = k.c * k.w.getD j 0 + worth l j := by simp [worth]
      have h3 : 0 ≤ k.w.getD j 0 ∧ k.w.getD j 0 ≤ 6 := by
        rw [List.getD_eq_getElem?_getD]
        cases e4 : k.w[j]? with
        | none => exact ⟨by decide, by decide⟩
        | some x => exact h2.w x (List.mem_of_getElem? e4)
      have h5 : 0 ≤ k.c * k.w.getD j 0 ∧ k.c * k.w.getD j 0 ≤ 18 := by
        have hc := h2.c
        generalize k.w.getD j 0 = y at h3
        have hc3 : k.c = 1 ∨ k.c = 2 ∨ k.c = 3 := by omega
        rcases hc3 with e | e | e <;> rw [e] <;> omega
      rw [e, List.length_cons]
      omega
  have := key ks h
  omega
theorem shares_bound {ps : List Pn} (h : ∀ p ∈ ps, 1 ≤ p.s ∧ p.s ≤ 3) (hl : 1 ≤ ps.length ∧ ps.length ≤ 3) : 1 ≤ shares ps ∧ shares ps ≤ 9 := by
  have key : ∀ l : List Pn, (∀ p ∈ l, 1 ≤ p.s ∧ p.s ≤ 3) → (l.length : Int) ≤ shares l ∧ shares l ≤ 3 * l.length := by
    intro l
    induction l with
    | nil =>
      intro _
      exact ⟨Int.le_refl 0, Int.le_refl 0⟩
    | cons p l ih =>
      intro hk
      have h1 := ih fun x hx => hk x (List.mem_cons_of_mem _ hx)
      have h2 := hk p (List.mem_cons_self ..)
      have e : shares (p :: l) = p.s + shares l := by simp [shares]
      rw [e, List.length_cons]
      omega
  have := key ps h
  omega
end Z
namespace Z
open PySem PySem.Spec PyProof.Rows L2 ZE
theorem pe_fldK {X : Cx} {K : PySem.W.Frag} {e : Expr} {f : Str} {ta : TE} {pos : Pos} (hK : X.K = K) (he : PE X e ta) (hb : attributeBase e f X.env (eval e X.env) = eval e X.env) : PE X (.Attribute e f pos) (tFld K ta f) := by
  subst hK
  exact pe_fld he hb
end Z
namespace Z
open PySem PySem.Spec PyProof.Rows L2 ZE
section
variable {K : PySem.W.Frag} {g : TG} {te : TE} {ta : TA} {vs : List Nat} {σ : L2.St} {H : Hp} {Q : VK}
theorem lcR (n : Nat) (ht : ∀ R : List V → Hp → Prop, R [.int (n : Int)] H → ta σ H R) (hn : n ≤ 90000) (m : Addr → Prop) (I : Hp → Prop) (R : Nat → V → Hp → Prop)
    (hm : ∀ b, m b → H b ≠ none) (hI : I H) (hIu : ∀ H' D o, H D = none → Gr m H H' → I H' → I (upd H' D o)) (hR : ∀ i y H' H'', R i y H' → Gr any H' H'' → R i y H'')
    (hs : ∀ (i : Nat) (H' : Hp) (Q' : VK), i < n → Gr m H H' → I H' → (∀ y H3, Gr m H' H3 → I H3 → R i y H3 → Q' y H3) → g (.int (i : Int)) (wipe σ vs) H' fun σ2 H2 => wipe σ2 vs = wipe σ vs ∧ te σ2 H2 Q')
    (k : ∀ D ys H', H D = none → Gr m H H' → I H' → H' D = some (.lst ys) → ys.length = n → (∀ i y, ys[i]? = some y → R i y H') → Q (.ref D) H') : tLc (iRng1 ta) g tYes te vs σ H Q :=
  ht _ ⟨(n : Int), rfl, by omega, by omega, lc_all (H := H) (walk_range (lo := 0) (n := n)) m I R hn (fun _ _ => trivial) hm hI hIu hR (fun i x H' H'' Q' hi g1 g2 ⟨e, hx⟩ q => by
    subst e
    have e0 : (0 : Int) + (i : Int) = (i : Int) := Int.zero_add _
    rw [hx]
    show g (.int (0 + (i : Int))) _ _ _
    rw [e0]
    exact hs i _ Q' hi g1 g2 q) k⟩
theorem lcRf (n : Nat) (ht : ∀ R : List V → Hp → Prop, R [.int (n : Int)] H → ta σ H R) (hn : n ≤ 90000) (zs : List V) (hz : zs.length = n)
    (hs : ∀ (i : Nat) (z : V) (H' : Hp) (Q' : VK), zs[i]? = some z → Ex H H' → (∀ H3, Ex H' H3 → Q' z H3) → g (.int (i : Int)) (wipe σ vs) H' fun σ2 H2 => wipe σ2 vs = wipe σ vs ∧ te σ2 H2 Q')
    (k : ∀ D H', H D = none → Ex H H' → H' D = some (.lst zs) → Q (.ref D) H') : tLc (iRng1 ta) g tYes te vs σ H Q := by
  refine lcR n ht hn nob (fun _ => True) (fun i y _ => zs[i]? = some y) (fun _ q => q.elim) trivial (fun _ _ _ _ _ _ => trivial) (fun _ _ _ _ q _ => q) (fun i H' Q' hi e _ q => ?_) fun D ys H' hD e _ h1 h2 h3 => ?_
  · exact hs i zs[i] H' Q' (List.getElem?_eq_getElem (by omega)) e fun H3 e3 => q _ H3 e3 trivial (List.getElem?_eq_getElem (by omega))
  · rw [ext_of (h2.trans hz.symm) h3] at h1
    exact k D H' hD e h1
end
end Z

/-! v in o, o == p, o != p: o and p instances of one own class with __contains__ and __eq__. -/
namespace Z
open PySem PySem.Spec PyProof.Rows L2
section
variable {X : Cx} {C : Addr} {k : Nat} {sp : Sp}
theorem run_own {f : Addr} {fd : FuncData} {ps : List Str} {pins : List (Addr × Obj)} {s : Shared} {σ : L2.St} {H : Hp} {us : List Value} {vs : List V} {Q : VK} (F : FnOk X.prog X.w X.K X.mg X.base (L2.CX X.prog X.w) k f fd ps sp) (hb : Binds X.K fd ps []) (hr : Room k X.A)
    (I : L2.Inv X pins σ H s) (r : Vals vs us) (hl : us.length = ps.length) (q : sp vs H Q E0) : wpAny (model X.prog X.w) X.A (call (.ref f) us) (EP X pins σ Q) X.xe s := by
  have hb2 := hb s us I.kIn (by rw [List.append_nil]; exact hl)
  rw [List.append_nil] at hb2
  refine wpAny_call (codeAny_mono (F.run X.A X.stack s H ⟨us, []⟩ us vs _ E0 hr I.env0 hb2 r q) fun r s' hq => ?_)
  cases r with
  | error er =>
    obtain ⟨_, _, _, _, _, _, _, _, _, _, _, _, z⟩ := (show L2.CX X.prog X.w X.stack H s E0 er s' from hq)
    exact z.elim
  | ok fl =>
    cases fl with
    | ret u => exact I.after hq
    | next => exact False.elim hq
    | brk => exact False.elim hq
    | cont => exact False.elim hq
theorem run_own1 {E : Value → Shared → Prop} {f : Addr} {fd : FuncData} {ps : List Str} {pins : List (Addr × Obj)} {s : Shared} {σ : L2.St} {H : Hp} {us : List Value} {vs : List V} {Q : VK} (F : FnOk X.prog X.w X.K X.mg X.base (L2.CX X.prog X.w) k f fd ps sp) (hb : Binds X.K fd ps []) (hr : Room (k + 1) X.A)
    (I : L2.Inv X pins σ H s) (r : Vals vs us) (hl : us.length = ps.length) (q : sp vs H Q E0) : wpAny (model X.prog X.w) X.A.in1 (call (.ref f) us) (EP X pins σ Q) E s := by
  have hb2 := hb s us I.kIn (by rw [List.append_nil]; exact hl)
  rw [List.append_nil] at hb2
  refine wpAny_call (codeAny_mono (F.run X.A.in1 X.stack s H ⟨us, []⟩ us vs _ E0 hr.in1 I.env0.in1 hb2 r q) fun r s' hq => ?_)
  cases r with
  | error er =>
    obtain ⟨_, _, _, _, _, _, _, _, _, _, _, _, z⟩ := (show L2.CX X.prog X.w X.stack H s E0 er s' from hq)
    exact z.elim
  | ok fl =>
    cases fl with
    | ret u => exact I.after hq
    | next => exact False.elim hq
    | brk => exact False.elim hq
    | cont => exact False.elim hq
def rInO (C : Addr) (sp : Sp) (neg : Bool) : R2 := fun x y H Q => ∃ a dx fs, y = .ref a ∧ H a = some (.ins C dx fs) ∧ sp [.ref a, x] H (fun v H' => ∃ b, v = .bl b ∧ Q (.bl (b != neg)) H') E0
theorem op_inO (c : Mtd X.prog X.w X.K X.mg X.base k C "__contains__" ["self", "value"] sp) {j : Nat} (hr : Room j X.A) (hj : k ≤ j) : OpR X (compareOp .In) (rInO C sp false) := by
  intro pins s σ H x y v u Q I rx ry h
  obtain ⟨a, dx, fs, rfl, ea, q⟩ := h
  obtain ⟨f, fd, hc, hm, hb, F⟩ := c.ex
  cases ry
  obtain ⟨mA, O, _⟩ := ins_get I.hok ea
  obtain ⟨od, J, _⟩ := O.look
  obtain ⟨m, fr⟩ := I.fr
  refine PySem.W.in_K fr I.ok.mod.kin J hm.at_ hm.fn ?_
  refine wpAny_mono (run_own (vs := [.ref a, x]) F hb (hr.mono hj) I (.cons rfl (.cons rx .nil)) rfl q) (fun w s' hw => ?_) fun _ _ z => z
  obtain ⟨v2, H', I2, r2, b, rfl, q2⟩ := hw
  cases r2
  refine wpAny_truthy_bool ?_
  refine ⟨.bl b, H', I2, rfl, ?_⟩
  have : (b != false) = b := by cases b <;> rfl
  rwa [this] at q2
theorem op_notInO (c : Mtd X.prog X.w X.K X.mg X.base k C "__contains__" ["self", "value"] sp) {j : Nat} (hr : Room j X.A) (hj : k ≤ j) : OpR X (compareOp .NotIn) (rInO C sp true) := by
  intro pins s σ H x y v u Q I rx ry h
  obtain ⟨a, dx, fs, rfl, ea, q⟩ := h
  obtain ⟨f, fd, hc, hm, hb, F⟩ := c.ex
  cases ry
  obtain ⟨mA, O, _⟩ := ins_get I.hok ea
  obtain ⟨od, J, _⟩ := O.look
  obtain ⟨m, fr⟩ := I.fr
  refine PySem.W.notIn_K fr I.ok.mod.kin J hm.at_ hm.fn ?_
  refine wpAny_mono (run_own (vs := [.ref a, x]) F hb (hr.mono hj) I (.cons rfl (.cons rx .nil)) rfl q) (fun w s' hw => ?_) fun _ _ z => z
  obtain ⟨v2, H', I2, r2, b, rfl, q2⟩ := hw
  cases r2
  refine wpAny_truthy_bool ?_
  refine ⟨.bl (!b), H', I2, rfl, ?_⟩
  have : (b != true) = !b := by cases b <;> rfl
  rwa [this] at q2
def rEqO (C : Addr) (sp : Sp) (neg : Bool) : R2 := fun x y H Q => ∃ a dx fs b dy gs, x = .ref a ∧ y = .ref b ∧ H a = some (.ins C dx fs) ∧ H b = some (.ins C dy gs) ∧ sp [.ref a, .ref b] H (fun v H' => ∃ c, v = .bl c ∧ Q (.bl (c != neg)) H') E0
theorem op_eqO (c : Mtd X.prog X.w X.K X.mg X.base k C "__eq__" ["self", "other"] sp) {j : Nat} (hr : Room j X.A) (hj : k ≤ j) : OpR X (compareOp .Eq) (rEqO C sp false) := by
  intro pins s σ H x y v u Q I rx ry h
  obtain ⟨a, dx, fs, b, dy, gs, rfl, rfl, ea, eb, q⟩ := h
  obtain ⟨f, fd, hc, hm, hb, F⟩ := c.ex
  cases rx
  cases ry
  obtain ⟨mA, O, _⟩ := ins_get I.hok ea
  obtain ⟨od, J, _⟩ := O.look
  obtain ⟨mB, O2, _⟩ := ins_get I.hok eb
  obtain ⟨od2, J2, _⟩ := O2.look
  obtain ⟨m, fr⟩ := I.fr
  show wpAny _ _ (richCompare .Eq (.ref a) (.ref b)) _ _ s
  refine PySem.W.cmp_K hr.units0 fr I.ok.mod.kin J J2.type (by unfold PySem.W.notFirst; simp) hm.at_ hm.fn ?_
  refine wpAny_mono (run_own (vs := [.ref a, .ref b]) F hb (hr.mono hj) I (.cons rfl (.cons rfl .nil)) rfl q) (fun w s' hw => ?_) fun _ _ z => z
  obtain ⟨v2, H', I2, r2, c, rfl, q2⟩ := hw
  cases r2
  refine ⟨.bl c, H', I2, rfl, ?_⟩
  have : (c != false) = c := by cases c <;> rfl
  rwa [this] at q2
/-- the class takes != from object -/
structure NeC (K : PySem.W.Frag) (C : Addr) : Prop where
  ne : PySem.W.findIn K (.ref C) "__ne__" = some (some (.builtin "object.__ne__"))
  ob : PySem.W.mroIn K C (.type "object") = some true
theorem ifBound_objNe {M : Model} {A : Around} {E : Value → Shared → Prop} {s : Shared} {K : PySem.W.Frag} {x C : Addr} {ox : Obj} {od : Option Obj} {args : List Value} {Q : Option Value → Shared → Prop} (X : K.In s.heap) (J : PySem.W.InstAt s.heap x ox C od) (n : NeC K C)
    (h : wpAny M A (call (.builtin "object.__ne__") (.ref x :: args)) (fun v => Q (some v)) E s) : wpAny M A (callSpecialIfBound? (.ref x) "__ne__" args) Q E s := by
  unfold callSpecialIfBound?
  refine wpAny_holding (wpAny_bind ?_)
  unfold bindSpecialIfBound?
  refine wpAny_bind ?_
  unfold specialOf
  refine wpAny_bind (J.type.here ?_)
  refine (PySem.W.looks_findIn X n.ne).here ?_
  refine wpAny_bind (wpAny_askSetting (wpAny_ite ?_))
  have hbnd := (CmpFacts.ne PySem.F.cmp_object).bind (.ref x)
  split
  · refine wpAny_bind ?_
    rw [hbnd]
    refine wpAny_pure (wpAny_pure ?_)
    refine wpAny_bind (wpAny_mono h (fun v s' q => wpAny_pure q) fun _ _ z => z)
  · refine wpAny_tryCatch (wpAny_bind ?_)
    rw [hbnd]
    refine wpAny_pure (wpAny_pure ?_)
    refine wpAny_bind (wpAny_mono h (fun v s' q => wpAny_pure q) fun _ _ z => z)
theorem op_neO (c : Mtd X.prog X.w X.K X.mg X.base k C "__eq__" ["self", "other"] sp) (n : NeC X.K C) {j : Nat} (hr : Room j X.A) (hj : k + 1 ≤ j) : OpR X (compareOp .NotEq) (rEqO C sp true) := by
  intro pins s σ H x y v u Q I rx ry h
  obtain ⟨a, dx, fs, b, dy, gs, rfl, rfl, ea, eb, q⟩ := h
  obtain ⟨f, fd, hc, hm, hb, F⟩ := c.ex
  cases rx
  cases ry
  obtain ⟨mA, O, _⟩ := ins_get I.hok ea
  obtain ⟨od, J, _⟩ := O.look
  obtain ⟨mB, O2, _⟩ := ins_get I.hok eb
  obtain ⟨od2, J2, _⟩ := O2.look
  show wpAny _ _ (richCompare .NotEq (.ref a) (.ref b)) _ _ s
  rw [richCompare.eq_1]
  refine wpAny_holding (wpAny_bind (wpAny_cRoomFor hr.units0 ?_))
  refine wpAny_bind (J.type.here ?_)
  refine wpAny_bind (J2.type.here ?_)
  rw [if_neg (by simp)]
  refine wpAny_bind (wpAny_pure ?_)
  show wpAny _ _ (tryCompare (.ref a) "__ne__" (.ref b) >>= _) _ _ s
  refine wpAny_bind ?_
  rw [tryCompare.eq_1]
  refine wpAny_bind (ifBound_objNe I.kIn J n ?_)
  refine wpAny_call (codeAny_call_builtin (CmpFacts.ne PySem.F.cmp_object).plain PySem.F.cmpEntry_ne ?_)
  refine PySem.W.check_slot PySem.F.cmpKind_ne PySem.F.cmpSplit_ne ((J.type).andThen (PySem.W.looks_mroIn I.kIn n.ob)) (PySem.F.cmpArgs_ne _ _) ?_
  unfold Builtin.«object.__ne__»
  refine wpAny_bind (wpAny_of_eq (a := (.ref a, [.ref b])) (by rfl) ?_)
  have hr1 : Room (k + 1) X.A := hr.mono hj
  refine wpAny_bind (wpAny_cRoomFor hr1.in1.units0 ?_)
  refine wpAny_bind (PySem.W.ifBound_K I.kIn J hm.at_ hm.fn ?_)
  refine wpAny_mono (run_own1 (vs := [.ref a, .ref b]) F hb hr1 I (.cons rfl (.cons rfl .nil)) rfl q) (fun w s' hw => ?_) fun _ _ z => z
  obtain ⟨v2, H', I2, r2, c, rfl, q2⟩ := hw
  cases r2
  refine wpAny_bind (wpAny_truthy_bool ?_)
  refine wpAny_pure ?_
  refine wpAny_pure ?_
  refine wpAny_pure ?_
  refine ⟨.bl (!c), H', I2, rfl, ?_⟩
  have : (c != true) = !c := by cases c <;> rfl
  rwa [this] at q2
end
end Z

/-! min(l, default=d), l a list of whole numbers. -/
namespace Z
open PySem PySem.Spec PyProof.Rows L2
section
variable {prog : Program} {w : World} {A : Around} {R : Result → Shared → Prop} {I : Addr} {fp wr : List Addr} {n : Nat} {P : Nat → Value → Prop} {St : Nat → Heap → Prop}
theorem minD_loop (W : Walks prog w A.in1 I fp wr n P St) (bt : Nat → Nat → Bool) (C : CmpOf prog w A.in1 CmpOp.Lt P bt) (S : Addr) (hS : ¬ S ∈ fp) (d : Value) :
    ∀ (k j : Nat) (s : Shared) (vb : Value) (c : Nat), n - (j + 1) = k → j + 1 ≤ n → St (j + 1) s.heap → P (argBest bt j) vb → s.heap.get? S = some { cls := .type "list", data := .seq #[vb, vb] c } →
      (∀ (v : Value) (h' : Heap) (tk : Nat), P (argBest bt (n - 1)) v → (∀ (b : Addr) (o : Obj), ¬ b ∈ wr → b ≠ S → s.heap.get? b = some o → h'.get? b = some o) → R (.ok (.ret v)) { s with heap := h', toks := tk }) →
      codeAny (model prog w) A (.builtin "min.loop" { pos := [.ref I, .none, .ref S], kw := [("default", d)] }) R s := by
  intro k
  have hSw : ¬ S ∈ wr := fun q => hS (W.sub S q)
  induction k with
  | zero =>
    intro j s vb c hk hj hst hp hs hR
    have hn : n = j + 1 := by omega
    refine codeAny_builtin F.entry_min_loop ?_
    rw [Around.under_plainId F.plain_min_loop]
    refine wpAny_bind (wpAny_seqItems hs rfl ?_)
    refine wpAny_bind (wpAny_tryCatch ?_)
    subst hn
    refine W.done s _ _ hst fun h' tk hk' => ?_
    have hs' := hk' S _ hSw hs
    refine wpAny_bind (wpAny_updateSeq hs' rfl ?_)
    refine wpAny_bind (wpAny_letGo ?_)
    refine wpAny_pure ?_
    exact hR vb _ tk hp fun b o hb hbS q => by
      exact (Heap.get?_update_other _ _ (Ne.symm hbS)).trans (hk' b o hb q)
  | succ k ih =>
    intro j s vb c hk hj hst hp hs hR
    refine codeAny_builtin F.entry_min_loop ?_
    rw [Around.under_plainId F.plain_min_loop]
    refine wpAny_bind (wpAny_seqItems hs rfl ?_)
    refine wpAny_bind (wpAny_tryCatch ?_)
    refine W.item (j + 1) s _ _ (by omega) hst fun v h' tk hv hst' hk' => ?_
    have hs' := hk' S _ hSw hs
    refine wpAny_bind (wpAny_pure ?_)
    refine wpAny_bind (wpAny_tryCatch ?_)
    refine wpAny_holding (wpAny_bind (C (j + 1) (argBest bt j) v vb _ _ _ hv hp ?_))
    refine wpAny_bind (wpAny_holding (wpAny_truthy_bool ?_))
    refine wpAny_bind (wpAny_letGo (wpAny_pure ?_))
    have en : argBest bt (j + 1) = if bt (j + 1) (argBest bt j) = true then j + 1 else argBest bt j := argBest.eq_2 bt j
    cases hb : bt (j + 1) (argBest bt j) with
    | true =>
      rw [if_pos rfl]
      rw [hb, if_pos rfl] at en
      refine wpAny_bind (wpAny_updateSeq hs' rfl ?_)
      refine wpAny_bind (wpAny_letGo ?_)
      refine wpAny_pure ⟨plainId_quiet F.plain_min_loop _, ?_⟩
      refine ih (j + 1) _ v c (by omega) (by omega) (W.frame _ _ _ hst' fun b hb o q => ?_) (by rw [en]; exact hv) ?_ fun u h2 tk2 hu hk2 => ?_
      · refine (Heap.get?_update_other _ _ (fun e => hS (by rw [e]; exact hb))).trans q
      · exact Heap.get?_update_self _ hs' rfl
      · exact hR u h2 tk2 hu fun b o hb1 hb2 q => hk2 b o hb1 hb2 (by
          exact (Heap.get?_update_other _ _ (Ne.symm hb2)).trans (hk' b o hb1 q))
    | false =>
      rw [if_neg (by decide)]
      rw [hb, if_neg (by decide)] at en
      refine wpAny_bind (wpAny_letGo ?_)
      refine wpAny_pure ⟨plainId_quiet F.plain_min_loop _, ?_⟩
      refine ih (j + 1) _ vb c (by omega) (by omega) hst' (by rw [en]; exact hp) hs' fun u h2 tk2 hu hk2 => ?_
      exact hR u h2 tk2 hu fun b o hb1 hb2 q => hk2 b o hb1 hb2 (hk' b o hb1 q)
theorem minD_nil (W : Walks prog w A.in1 I fp wr 0 P St) (S : Addr) (hS : ¬ S ∈ fp) (d : Value) {s : Shared} {c : Nat} (hst : St 0 s.heap) (hs : s.heap.get? S = some { cls := .type "list", data := .seq #[] c })
    (hR : ∀ (h' : Heap) (tk : Nat), (∀ (b : Addr) (o : Obj), ¬ b ∈ wr → s.heap.get? b = some o → h'.get? b = some o) → R (.ok (.ret d)) { s with heap := h', toks := tk }) :
    codeAny (model prog w) A (.builtin "min.loop" { pos := [.ref I, .none, .ref S], kw := [("default", d)] }) R s := by
  refine codeAny_builtin F.entry_min_loop ?_
  rw [Around.under_plainId F.plain_min_loop]
  refine wpAny_bind (wpAny_seqItems hs rfl ?_)
  refine wpAny_bind (wpAny_tryCatch ?_)
  refine W.done s _ _ hst fun h' tk hk' => ?_
  refine wpAny_bind (wpAny_rule ?_)
  exact wpAny_pure (hR h' tk hk')
theorem minD_first (W : Walks prog w A.in1 I fp wr n P St) (bt : Nat → Nat → Bool) (C : CmpOf prog w A.in1 CmpOp.Lt P bt) (S : Addr) (hS : ¬ S ∈ fp) (d : Value) (hn : 0 < n) {s : Shared} {c : Nat} (hst : St 0 s.heap) (hs : s.heap.get? S = some { cls := .type "list", data := .seq #[] c })
    (hR : ∀ (v : Value) (h' : Heap) (tk : Nat), P (argBest bt (n - 1)) v → (∀ (b : Addr) (o : Obj), ¬ b ∈ wr → b ≠ S → s.heap.get? b = some o → h'.get? b = some o) → R (.ok (.ret v)) { s with heap := h', toks := tk }) :
    codeAny (model prog w) A (.builtin "min.loop" { pos := [.ref I, .none, .ref S], kw := [("default", d)] }) R s := by
  have hSw : ¬ S ∈ wr := fun q => hS (W.sub S q)
  refine codeAny_builtin F.entry_min_loop ?_
  rw [Around.under_plainId F.plain_min_loop]
  refine wpAny_bind (wpAny_seqItems hs rfl ?_)
  refine wpAny_bind (wpAny_tryCatch ?_)
  refine W.item 0 s _ _ hn hst fun v h' tk hv hst' hk' => ?_
  have hs' := hk' S _ hSw hs
  refine wpAny_bind (wpAny_pure ?_)
  refine wpAny_bind (wpAny_updateSeq hs' rfl ?_)
  refine wpAny_pure ⟨plainId_quiet F.plain_min_loop _, ?_⟩
  refine minD_loop W bt C S hS d _ 0 _ v _ rfl (by omega) (W.frame _ _ _ hst' fun b hb o q => (Heap.get?_update_other _ _ (fun e => hS (by rw [e]; exact hb))).trans q) hv (by exact Heap.get?_update_self (Obj.mapSeq fun _ => #[v, v]) hs' rfl) fun u h2 tk2 hu hk2 => ?_
  exact hR u h2 tk2 hu fun b o hb1 hb2 q => hk2 b o hb1 hb2 ((Heap.get?_update_other _ _ (Ne.symm hb2)).trans (hk' b o hb1 q))
end
section
variable {prog : Program} {w : World} {A : Around} {E : Value → Shared → Prop} {s : Shared} {l : Addr}
theorem args_minD (a v : Value) : argsOk "min" { pos := [a], kw := [(Str.ofString "default", v)] } := kmk_min_key a v
theorem minD_call {xs : Array (Int × Tok)} {d : Value} {Q : Value → Shared → Prop} (hh : A.handled = none) (hl : s.heap.IsList l (intItems xs))
    (h0 : xs.size = 0 → ∀ (h' : Heap) (tk : Nat), (∀ (b : Addr) (o : Obj), s.heap.get? b = some o → h'.get? b = some o) → Q d { s with heap := h', toks := tk })
    (h1 : 0 < xs.size → ∀ (v : Value) (h' : Heap) (tk : Nat), (intItems xs)[argBest (fun i j => decide (numAt xs i < numAt xs j)) (xs.size - 1)]? = some v → (∀ (b : Addr) (o : Obj), s.heap.get? b = some o → h'.get? b = some o) → Q v { s with heap := h', toks := tk }) :
    wpAny (model prog w) A (call (.builtin "min") [.ref l] [("default", d)]) Q E s := by
  refine kmk_tree F.kind_min F.plain_min F.entry_min (args_minD _ _) ?_
  refine wpAny_bind (wpAny_of_eq (a := [none, some d]) (by rfl) ?_)
  refine wpAny_bind (wpAny_pure ?_)
  refine wpAny_bind (iter_intList hl fun s2 e2 ⟨i1, i2⟩ _ hne => ?_)
  refine wpAny_bind (wpAny_newList ?_)
  refine wpAny_pure ⟨plainId_quiet F.plain_min_loop _, ?_⟩
  have sz : s2.heap.objs.size = s.heap.objs.size + 1 := by rw [e2]; exact Heap.size_push ..
  have W := Walks.list (prog := prog) (w := w) (A := A.in1) (by rw [Around.in1_handled]; exact hh) s.heap.objs.size l hne (intItems xs)
  have hlt : l < s.heap.objs.size := by
    obtain ⟨o, ho, _⟩ := hl
    exact Heap.lt_size ho
  have hSf : ¬ s2.heap.objs.size ∈ [s.heap.objs.size, l] := by
    intro q
    have q : s2.heap.objs.size = s.heap.objs.size ∨ s2.heap.objs.size = l := by simpa using q
    rcases q with q | q
    · omega
    · rw [← q] at hlt
      exact absurd (show s2.heap.objs.size < s.heap.objs.size from hlt) (by omega)
  have keep : ∀ (b : Addr) (o : Obj), s2.heap.get? b = some o → (s2.heap.push { cls := .type "list", data := .seq #[] }).get? b = some o := fun b o q => Heap.get?_push_of_some _ q
  have st0 : (s2.heap.push { cls := .type "list", data := .seq #[] }).IsListIter s.heap.objs.size l (0 : Nat) ∧ (s2.heap.push { cls := .type "list", data := .seq #[] }).IsList l (intItems xs) :=
    W.frame 0 s2.heap _ ⟨i1, i2⟩ fun b _ o q => keep b o q
  have hS0 : (s2.heap.push { cls := .type "list", data := .seq #[] }).get? s2.heap.objs.size = some { cls := .type "list", data := .seq #[] } := Heap.get?_push_size _ rfl
  have old : ∀ (b : Addr) (o : Obj), s.heap.get? b = some o → s2.heap.get? b = some o ∧ b ≠ s.heap.objs.size ∧ b ≠ s2.heap.objs.size := fun b o q => by
    have := Heap.lt_size q
    refine ⟨by rw [e2]; exact Heap.get?_push_of_some _ q, fun e => absurd this (by rw [e]; exact Nat.lt_irrefl _), fun e => absurd this (by rw [e, sz]; exact Nat.not_lt.mpr (Nat.le_succ _))⟩
  have hz : (intItems xs).size = xs.size := by simp [intItems]
  by_cases hx : xs.size = 0
  · have W0 : Walks prog w A.in1 s.heap.objs.size [s.heap.objs.size, l] [s.heap.objs.size] 0 (fun i v => (intItems xs)[i]? = some v) (fun i h => h.IsListIter s.heap.objs.size l i ∧ h.IsList l (intItems xs)) := by
      rw [hz, hx] at W
      exact W
    refine minD_nil W0 s2.heap.objs.size hSf d st0 hS0 fun h' tk hk => ?_
    have hs : ({ s2 with heap := h', toks := tk } : Shared) = { s with heap := h', toks := tk } := by rw [e2]
    show Q d _
    rw [show _ = ({ s2 with heap := h', toks := tk } : Shared) from rfl, hs]
    refine h0 hx h' tk fun b o q => ?_
    obtain ⟨o1, o2, o3⟩ := old b o q
    exact hk b o (by simpa using o2) (keep b o o1)
  · refine minD_first W (fun i j => decide (numAt xs i < numAt xs j)) (CmpOf.ints_lt (numAt xs) fun i v q => intItems_at q) s2.heap.objs.size hSf d (by rw [hz]; omega) st0 hS0 fun v h' tk hv hk => ?_
    have hs : ({ s2 with heap := h', toks := tk } : Shared) = { s with heap := h', toks := tk } := by rw [e2]
    show Q v _
    rw [show _ = ({ s2 with heap := h', toks := tk } : Shared) from rfl, hs]
    rw [hz] at hv
    refine h1 (by omega) v h' tk hv fun b o q => ?_
    obtain ⟨o1, o2, o3⟩ := old b o q
    exact hk b o (by simpa using o2) o3 (keep b o o1)
end
section
variable {X : Cx}
def rMinD (K : PySem.W.Frag) : List V → List V → Hp → VK → Prop := fun vs zs H Q => ∃ a ns d, vs = [.ref a] ∧ zs = [d] ∧ SqL K H a (ns.map V.int) ∧ (ns = [] → Q d H) ∧ ∀ m, m ∈ ns → (∀ y, y ∈ ns → m ≤ y) → Q (.int m) H
theorem cr_minD (hc : X.calm = true) : CallRK X (.builtin "min") ["default"] (rMinD X.K) := by
  intro pins s σ H xs zs us ws Q I r rz h
  obtain ⟨a, ns, d, rfl, rfl, hs, h0, h1⟩ := h
  cases r with
  | cons r rr =>
    cases rr
    cases r
    cases rz with
    | cons rd rr =>
      cases rr
      rename_i u
      obtain ⟨its, v1, v2, v3⟩ := I.list hs
      have hi := v1.ints
      have hl := v2.isList
      obtain ⟨ws, hws⟩ := AllInts.items hi.allInts
      have en : ws.toList.map (·.1) = ns := by
        have e := nums_intItems ws
        rw [← hws] at e
        rw [← e]
        exact hi.numsOf
      rw [hws] at hl
      have hsz : ws.size = ns.length := by
        rw [← en, List.length_map, Array.length_toList]
      refine minD_call (I.ok.hd hc) hl (fun hx h' tk hk => ?_) fun hx v h' tk hv hk => ?_
      · exact ⟨d, H, I.kept hk, rd, h0 (List.length_eq_zero_iff.mp (by omega))⟩
      · obtain ⟨t, rfl⟩ := intItems_at hv
        obtain ⟨b1, b2⟩ := argBest_lt (numAt ws) (ws.size - 1)
        generalize hj : argBest (fun i j => decide (numAt ws i < numAt ws j)) (ws.size - 1) = j at b1 b2 hv
        refine ⟨.int (numAt ws j), H, I.kept hk, ⟨t, rfl⟩, h1 _ ?_ fun y hy => ?_⟩
        · rw [numAt_eq, en]
          exact getD_mem (by omega)
        · obtain ⟨i, hi1, rfl⟩ := mem_getD hy
          have := b2 i (by omega)
          rwa [numAt_eq ws i, en] at this
end
end Z

/-! xs[f::d], xs a list. -/
namespace Z
open PySem PySem.Spec PyProof.Rows L2 HT
def stepN (n f d : Nat) : List Nat := (List.range ((n - f + d - 1) / d)).map fun k => f + d * k
def stepV {α : Type} (xs : List α) (f d : Nat) : List α := (stepN xs.length f d).filterMap fun i => xs[i]?
theorem step_pick (its : List Value) {f d : Nat} (hf : f ≤ its.length) (hd : 0 < d) : slicePick its.toArray (some (f : Int)) none (some (d : Int)) = (stepV its f d).toArray := by
  unfold slicePick stepV
  congr 1
  have e1 : sliceBounds (some (f : Int)) none (some (d : Int)) its.toArray.size = ((f : Int), (its.length : Int), (d : Int)) := by
    unfold sliceBounds
    simp only [Option.getD_some, List.size_toArray]
    rw [if_neg (show ¬ ((f : Int) < 0) by omega), if_pos (show (d : Int) > 0 by omega), if_pos (show (d : Int) > 0 by omega)]
    congr 1
    omega
  rw [e1]
  have e2 : sliceRange (f : Int) (its.length : Int) (d : Int) = stepN its.length f d := by
    unfold sliceRange stepN
    simp only []
    rw [if_pos (show (d : Int) > 0 by omega)]
    have e3 : ((if (f : Int) < (its.length : Int) then ((its.length : Int) - f + d - 1) / d else 0) : Int).toNat = (its.length - f + d - 1) / d := by
      split
      · have e : ((its.length : Int) - f + d - 1) = ((its.length - f + d - 1 : Nat) : Int) := by omega
        rw [e, ← Int.natCast_ediv, Int.toNat_natCast]
      · have e : its.length - f + d - 1 = d - 1 := by omega
        rw [e, Nat.div_eq_of_lt (by omega)]
        rfl
    rw [e3]
    refine List.map_congr_left fun k _ => ?_
    have e : (f : Int) + d * k = ((f + d * k : Nat) : Int) := by simp
    rw [e, Int.toNat_natCast]
  show List.filterMap (fun x => its.toArray[x]?) (sliceRange (f : Int) (its.length : Int) (d : Int)) = _
  rw [e2]
  congr 1
  funext x
  simp
theorem stepV_len {α : Type} (xs : List α) (f d : Nat) (hd : 0 < d) : (stepV xs f d).length ≤ xs.length := by
  refine Nat.le_trans (List.length_filterMap_le ..) ?_
  unfold stepN
  rw [List.length_map, List.length_range]
  rw [Nat.div_le_iff_le_mul_add_pred hd]
  have := Nat.le_mul_of_pos_left xs.length hd
  omega
section
variable {X : Cx}
def tStepL (K : PySem.W.Frag) (te : TE) (tl ts : TO) : TE := fun σ H Q => te σ H fun x H1 => tl σ H1 fun l H2 => ts σ H2 fun s H3 => ∃ a xs, ∃ f d : Nat, x = .ref a ∧ l = some (f : Int) ∧ s = some (d : Int) ∧ SqL K H3 a xs ∧ f ≤ xs.length ∧ 0 < d ∧ ∀ p, H3 p = none → Q (.ref p) (upd H3 p (.lst (stepV xs f d)))
theorem pe_stepL {e : Expr} {te : TE} {lo st : Expr} {tl ts : TO} {p2 pos : Pos} (he : PE X e te) (hl : PO X (some lo) tl) (hs : PO X (some st) ts) : PE X (.Subscript e (.Slice (some lo) none (some st) p2) pos) (tStepL X.K te tl ts) := by
  refine ⟨fun pins s σ H Q I h => ?_⟩
  refine Subscript_ (thn (he.run pins s σ H _ I h) fun v s1 ⟨x, H1, I1, r1, q1⟩ => ?_)
  refine wpAny_Slice (thn (hl.run pins s1 σ H1 _ I1 q1) fun vl s2 ⟨l, H2, I2, pl, q2⟩ => ?_)
  refine thn (po_none.run pins s2 σ H2 (fun o H3 => o = none ∧ H3 = H2) I2 ⟨rfl, rfl⟩) fun vu s3 ⟨u, H3, I3, pu, eu, e3⟩ => ?_
  subst eu e3
  refine thn (hs.run pins s3 σ H3 _ I3 q2) fun vs s4 ⟨o, H4, I4, ps, q4⟩ => ?_
  obtain ⟨a, xs, f, d, rfl, rfl, rfl, hx, hf, hd, q⟩ := q4
  cases r1
  have I5 : Inv X pins σ H4 { s4 with heap := s4.heap.push { cls := .type "slice", data := .fields #[vl, vu, vs] } } := I4.kept (t' := s4.toks) fun b ob q => Heap.get?_push_of_some _ q
  obtain ⟨its, r, ht, hz⟩ := I5.list hx
  have hlen := r.length
  show wpAny (model X.prog X.w) X.A (subscriptTail e (.Slice (some lo) none (some st) p2) (.ref a) (.ref s4.heap.objs.size)) (EP X pins σ Q) X.xe { s4 with heap := s4.heap.push { cls := .type "slice", data := .fields #[vl, vu, vs] } }
  refine tail_any (ops := [.ref a, .ref s4.heap.objs.size]) ht.isList.typeIs PySem.slot_list_getitem.lookup ?_ (by with_unfolding_all rfl)
  refine wpAny_getItem_list_slice ht.isList (Heap.IsSliceOf.new _ _ _ _) pl pu ps (by simp; omega) ?_ (by rw [List.size_toArray]; omega)
  rw [step_pick its (by omega) hd]
  have hv : Vals (stepV xs f d) (stepV its f d) := by
    unfold stepV
    rw [hlen]
    have key : ∀ ks : List Nat, Vals (ks.filterMap fun i => xs[i]?) (ks.filterMap fun i => its[i]?) := fun ks => by
      induction ks with
      | nil => exact .nil
      | cons k ks ih =>
        by_cases hk : k < xs.length
        · obtain ⟨u, hu, ru⟩ := r.get (List.getElem?_eq_getElem hk)
          rw [List.filterMap_cons_some (List.getElem?_eq_getElem hk), List.filterMap_cons_some hu]
          exact .cons ru ih
        · rw [List.filterMap_cons_none (List.getElem?_eq_none (by omega)), List.filterMap_cons_none (List.getElem?_eq_none (by omega))]
          exact ih
    exact key _
  refine ⟨.ref _, _, I5.laid (t' := s4.toks) (o := .lst (stepV xs f d)) (fun b ob q => Heap.get?_push_of_some _ q) (Nat.le_refl _) ?_, rfl, q _ (I5.hok.fresh (Nat.le_refl _))⟩
  have := stepV_len xs f d hd
  simp only [L2.ObjOk]
  exact ⟨by omega, _, _, hv, Heap.get?_push_size _ rfl⟩
end
end Z

/-! set(t), t a tuple of whole numbers; len of a set of them. -/
namespace Z
open PySem PySem.Spec PyProof.Rows L2
section
variable {X : Cx}
def rSetT (K : PySem.W.Frag) (w : World) : List V → Hp → VK → Prop := fun xs H Q => ∃ (p : Addr) (ns : List Int), xs = [.ref p] ∧ SqT K H p (ns.map V.int) ∧ ns.length ≤ 1000 ∧ ∀ a c, H a = none → c ≤ ns.length → Q (.ref a) (upd H a (SetO w a (fun j => decide (j ∈ ns)) c))
theorem cr_setT (hc : X.calm = true) : CallR X (.type "set") (rSetT X.K X.w) := by
  intro pins s σ H xs us Q I r h
  obtain ⟨p, ns, rfl, hs, hn, q⟩ := h
  cases r with
  | cons r rr =>
    cases rr
    cases r
    obtain ⟨its, v1, v2, v3⟩ := I.tuple hs
    have hi := v1.ints
    refine call_set_tupI ns (I.ok.hd hc) v2 hi (by show ns.length + 1 < scanBound; exact Nat.lt_of_le_of_lt (Nat.succ_le_succ hn) (by decide)) fun h' tk c hS hle hk => ?_
    refine ⟨.ref _, _, I.laid (t' := tk) (o := SetO X.w s.heap.objs.size (fun j => decide (j ∈ ns)) c) hk (Nat.le_refl _) (setO_new hS), rfl, q _ c (I.hok.fresh (Nat.le_refl _)) hle⟩
def rLenSet (w : World) : List V → Hp → VK → Prop := fun xs H Q => ∃ a S n, xs = [.ref a] ∧ H a = some (SetO w a S n) ∧ ∀ ks : List Int, ks.Nodup → ks.length = n → (∀ k, S k = true ↔ k ∈ ks) → Q (.int (n : Nat)) H
theorem cr_lenSet : CallR X (.builtin "len") (rLenSet X.w) := by
  intro pins s σ H xs us Q I r h
  obtain ⟨a, S, n, rfl, hs, q⟩ := h
  cases r with
  | cons r rr =>
    cases rr
    cases r
    obtain ⟨o, es, ep, t, h1, h2, h3, h4, h5, h6, h7, h8, h9, h10⟩ := setO_get I hs
    refine call_len_set h1 h2 h3 h8 (by
      have h11 : scanBound < 2 ^ 63 := by decide
      omega) ?_
    refine ⟨.int n, H, I.kept (t' := s.toks + 1 + 1) (fun _ _ q => q), ⟨_, by rw [h9]⟩, q _ h5 (by rw [List.length_map, Array.length_toList]; exact h9) h6⟩
/-- sorted(t), t a tuple of fewer than 64 whole numbers -/
def rSortT (K : PySem.W.Frag) : List V → Hp → VK → Prop := fun vs H Q => ∃ (a : Addr) (ns : List Int), vs = [.ref a] ∧ SqT K H a (ns.map V.int) ∧ ns.length < 64 ∧ ∀ (ns' : List Int) (p : Addr), ns'.Perm ns → ns'.Pairwise (· ≤ ·) → H p = none → Q (.ref p) (upd H p (.lst (ns'.map V.int)))
theorem cr_sortT : CallR X (.builtin "sorted") (rSortT X.K) := by
  intro pins s σ H xs us Q I r h
  obtain ⟨a, ns, rfl, hs, hn, q⟩ := h
  cases r with
  | cons r rr =>
    cases rr
    cases r
    obtain ⟨its, v1, v2, v3⟩ := I.tuple hs
    have hi := v1.ints
    have hlen : its.length = ns.length := by
      have := v1.length
      rw [List.length_map] at this
      exact this.symm
    have hsz : its.length ≤ sizeLine := by rw [hlen]; exact Nat.le_trans (Nat.le_of_lt hn) (by decide)
    obtain ⟨o, ho1, ho2, nn, ho3⟩ := v2
    refine Calls.call_function_entry kind_sorted plain_sorted entry_sorted (args_sorted1 _) ?_
    refine wpAny_bind (wpAny_of_eq (a := ()) (by rfl) ?_)
    refine wpAny_bind (wpAny_collect_seq a (.inr rfl) ho1 ho2 ho3 (fun h' hk => ?_) (by rw [List.size_toArray]; exact hsz))
    have I1 := I.kept (t' := s.toks) hk
    refine wpAny_bind (wpAny_newList ?_ (by simpa using hsz))
    refine wpAny_bind (wpAny_holding ?_)
    have hg : (h'.push (seqObj "list" its.toArray 0)).get? h'.objs.size = some (seqObj "list" its.toArray 0) := Heap.get?_push_size _ rfl
    refine wpAny_call_entry slot_list_sort ⟨_, hg, rfl⟩ entry_list_sort ?_ (args_list_sort _)
    refine list_sort_tree (vs := its) (by simpa using hg) hi (by rw [hlen]; exact hn) fun out ns' e1 e2 e3 => ?_
    refine ⟨_, rfl, ?_⟩
    refine wpAny_pure ⟨_, rfl, ?_⟩
    obtain ⟨e, he⟩ := sortedHeap_at (out := out) hg
    refine ⟨.ref _, _, I1.laid (t' := s.toks) (o := .lst (ns'.map V.int)) (a := h'.objs.size) (fun b u hb => ?_) (Nat.le_refl _) ?_, rfl, q ns' _ e2 e3 (I1.hok.fresh (Nat.le_refl _))⟩
    · have hb2 := Heap.lt_size hb
      refine (sortedHeap_old (fun e => ?_) ?_).trans (Heap.get?_push_of_some _ hb)
      · rw [e] at hb2
        exact Nat.lt_irrefl _ hb2
      · rw [size_push']
        exact Nat.lt_succ_of_lt hb2
    · simp only [L2.ObjOk]
      have := e2.length_eq
      refine ⟨by rw [List.length_map]; omega, out.toList, e, vals_of_ints e1, by simpa using he⟩
end
end Z

/-! Sets of numbers: sums of generators, their least ones, the least sum for each remainder. Plain Lean. -/
namespace NM
/-- n is a sum of these -/
inductive Sg (g : List Int) : Int → Prop
  | zero : Sg g 0
  | add {a s : Int} : a ∈ g → Sg g s → Sg g (a + s)
def Pos (g : List Int) : Prop := ∀ a ∈ g, 0 < a
theorem Sg.nonneg {g : List Int} (h : Pos g) {s : Int} (q : Sg g s) : 0 ≤ s := by
  induction q with
  | zero => omega
  | add ha _ ih =>
    have := h _ ha
    omega
theorem Sg.mem {g : List Int} {a : Int} (h : a ∈ g) : Sg g a := by
  have := Sg.add h .zero
  rwa [Int.add_zero] at this
theorem Sg.plus {g : List Int} {s t : Int} (h : Sg g s) (k : Sg g t) : Sg g (s + t) := by
  induction h with
  | zero => rwa [Int.zero_add]
  | add ha _ ih =>
    rw [Int.add_assoc]
    exact .add ha ih
theorem Sg.sub {g g' : List Int} (h : ∀ a ∈ g, Sg g' a) {s : Int} (q : Sg g s) : Sg g' s := by
  induction q with
  | zero => exact .zero
  | add ha _ ih => exact (h _ ha).plus ih
theorem Sg.mul {g : List Int} {s : Int} (h : Sg g s) : ∀ n : Nat, Sg g (n * s)
  | 0 => by simpa using Sg.zero
  | n + 1 => by
    have e : ((n + 1 : Nat) : Int) * s = n * s + s := by rw [Int.natCast_add, Int.add_mul]; simp
    rw [e]
    exact (h.mul n).plus h
theorem Sg.up {g g' : List Int} (h : ∀ a ∈ g, a ∈ g') {s : Int} (q : Sg g s) : Sg g' s := q.sub fun a ha => .mem (h a ha)
/-- the sums of g with one number more -/
theorem Sg.snoc {g : List Int} {a s : Int} : Sg (g ++ [a]) s ↔ ∃ (k : Nat) (t : Int), Sg g t ∧ s = t + k * a := by
  constructor
  · intro q
    induction q with
    | zero => exact ⟨0, 0, .zero, by simp⟩
    | add hb _ ih =>
      obtain ⟨k, t, h1, h2⟩ := ih
      rcases List.mem_append.mp hb with hb | hb
      · exact ⟨k, _, .add hb h1, by rw [h2, Int.add_assoc]⟩
      · rw [List.mem_singleton] at hb
        subst hb
        refine ⟨k + 1, t, h1, ?_⟩
        rw [h2, Int.natCast_add, Int.add_mul]
        omega
  · rintro ⟨k, t, h1, rfl⟩
    exact (h1.up fun b hb => List.mem_append_left _ hb).plus ((Sg.mem (by simp)).mul k)
theorem sg_nil {s : Int} : Sg [] s ↔ s = 0 := ⟨fun q => by
  cases q with
  | zero => rfl
  | add h _ => simp at h, fun h => by rw [h]; exact .zero⟩
/-- what a sum of positive numbers is made of is not greater -/
theorem Sg.small {g : List Int} (hp : Pos g) {s : Int} (q : Sg g s) : Sg (g.filter fun a => decide (a ≤ s)) s := by
  induction q with
  | zero => exact .zero
  | @add a s ha hs ih =>
    have h1 := hp a ha
    have h2 := Sg.nonneg hp hs
    refine .add (List.mem_filter.mpr ⟨ha, decide_eq_true (by omega)⟩) (ih.up fun b hb => ?_)
    obtain ⟨h3, h4⟩ := List.mem_filter.mp hb
    exact List.mem_filter.mpr ⟨h3, decide_eq_true (by have := of_decide_eq_true h4; omega)⟩
/-! ### atoms -/
def Atom (S : Int → Prop) (n : Int) : Prop := S n ∧ 0 < n ∧ ∀ a b, S a → S b → 0 < a → 0 < b → a + b ≠ n
/-- ascending, from 1 on, none a sum of lesser ones -/
structure Least (g : List Int) : Prop where
  pos : Pos g
  asc : g.Pairwise (· < ·)
  min : ∀ a ∈ g, ¬ Sg (g.filter fun b => decide (b < a)) a
theorem Least.atom {g : List Int} (h : Least g) {a : Int} : a ∈ g ↔ Atom (Sg g) a := by
  constructor
  · intro ha
    refine ⟨.mem ha, h.pos a ha, fun x y hx hy h1 h2 e => h.min a ha ?_⟩
    have f : ∀ z, Sg g z → z < a → Sg (g.filter fun b => decide (b < a)) z := fun z hz hl => (Sg.small h.pos hz).up fun b hb => by
      obtain ⟨h3, h4⟩ := List.mem_filter.mp hb
      exact List.mem_filter.mpr ⟨h3, decide_eq_true (by have := of_decide_eq_true h4; omega)⟩
    have := (f x hx (by omega)).plus (f y hy (by omega))
    rwa [e] at this
  · rintro ⟨h1, h2, h3⟩
    cases h1 with
    | zero => omega
    | @add b s hb hs =>
      by_cases h0 : s = 0
      · subst h0
        rwa [Int.add_zero]
      · have hs0 := Sg.nonneg h.pos hs
        exact (h3 b s (.mem hb) hs (h.pos b hb) (by omega) rfl).elim
theorem asc_ext : ∀ {g k : List Int}, g.Pairwise (· < ·) → k.Pairwise (· < ·) → (∀ a, a ∈ g ↔ a ∈ k) → g = k
  | [], [], _, _, _ => rfl
  | [], b :: k, _, _, h => by simpa using (h b).mpr (List.mem_cons_self ..)
  | a :: g, [], _, _, h => by simpa using (h a).mp (List.mem_cons_self ..)
  | a :: g, b :: k, h1, h2, h => by
    obtain ⟨p1, p2⟩ := List.pairwise_cons.mp h1
    obtain ⟨q1, q2⟩ := List.pairwise_cons.mp h2
    have e : a = b := by
      rcases List.mem_cons.mp ((h a).mp (List.mem_cons_self ..)) with e | e
      · exact e
      · rcases List.mem_cons.mp ((h b).mpr (List.mem_cons_self ..)) with e2 | e2
        · exact e2.symm
        · have := p1 b e2
          have := q1 a e
          omega
    subst e
    rw [asc_ext p2 q2 fun c => ?_]
    constructor
    · intro hc
      rcases List.mem_cons.mp ((h c).mp (List.mem_cons_of_mem _ hc)) with e | e
      · have := p1 c hc
        omega
      · exact e
    · intro hc
      rcases List.mem_cons.mp ((h c).mpr (List.mem_cons_of_mem _ hc)) with e | e
      · have := q1 c hc
        omega
      · exact e
/-- sets of the same sums have the same least numbers -/
theorem Least.ext {g k : List Int} (h1 : Least g) (h2 : Least k) (h : ∀ s, Sg g s ↔ Sg k s) : g = k := by
  refine asc_ext h1.asc h2.asc fun a => ?_
  rw [h1.atom, h2.atom]
  have e : Sg g = Sg k := funext fun s => propext (h s)
  rw [e]
/-- one more number behind least ones, which is no sum of them -/
theorem Least.snoc {g : List Int} {a : Int} (h : Least g) (ha : 0 < a) (hl : ∀ b ∈ g, b < a) (hn : ¬ Sg g a) : Least (g ++ [a]) where
  pos b hb := by
    rcases List.mem_append.mp hb with hb | hb
    · exact h.pos b hb
    · rw [List.mem_singleton] at hb
      omega
  asc := List.pairwise_append.mpr ⟨h.asc, List.pairwise_singleton .., fun b hb c hc => by
    rw [List.mem_singleton] at hc
    rw [hc]
    exact hl b hb⟩
  min b hb q := by
    rcases List.mem_append.mp hb with hb | hb
    · refine h.min b hb (q.up fun c hc => ?_)
      obtain ⟨h3, h4⟩ := List.mem_filter.mp hc
      have h5 := of_decide_eq_true h4
      rcases List.mem_append.mp h3 with h3 | h3
      · exact List.mem_filter.mpr ⟨h3, h4⟩
      · rw [List.mem_singleton] at h3
        have := hl b hb
        omega
    · rw [List.mem_singleton] at hb
      subst hb
      refine hn (q.up fun c hc => ?_)
      obtain ⟨h3, h4⟩ := List.mem_filter.mp hc
      have h5 := of_decide_eq_true h4
      rcases List.mem_append.mp h3 with h3 | h3
      · exact h3
      · rw [List.mem_singleton] at h3
        omega
theorem least_nil : Least [] := ⟨fun a h => by simp at h, .nil, fun a h => by simp at h⟩
theorem pos_filter {g : List Int} (h : Pos g) (p : Int → Bool) : Pos (g.filter p) := fun a ha => h a (List.mem_filter.mp ha).1
theorem Least.filter {g : List Int} (h : Least g) (p : Int → Bool) : Least (g.filter p) where
  pos := pos_filter h.pos p
  asc := h.asc.filter p
  min a ha q := h.min a (List.mem_filter.mp ha).1 (q.up fun b hb => by
    obtain ⟨h1, h2⟩ := List.mem_filter.mp hb
    exact List.mem_filter.mpr ⟨(List.mem_filter.mp h1).1, h2⟩)
/-! ### sums as bits -/
def Bits (N : Nat) (S : Int → Prop) : Prop := ∀ n : Nat, n ≤ 1000 → (N.testBit n = true ↔ S n)
theorem bits_one : Bits 1 (Sg []) := fun n _ => by
  rw [sg_nil, show (1 : Nat) = 2 ^ 0 from rfl, Nat.testBit_two_pow]
  simp
  omega
/-- the sums with up to k times d added -/
def Mul (M : Nat) (d k : Nat) (n : Int) : Prop := ∃ j : Nat, j < k ∧ ∃ m : Nat, n = m + j * d ∧ M.testBit m = true
theorem mul_one {M d : Nat} (hM : M < 2 ^ 1001) : Bits M (Mul M d 1) := fun n _ => by
  constructor
  · intro h
    exact ⟨0, by omega, n, by simp, h⟩
  · rintro ⟨j, hj, m, e, h⟩
    have : j = 0 := by omega
    subst this
    have : n = m := by simp at e; omega
    rwa [this]
theorem mul_two {M d k N : Nat} (h : Bits N (Mul M d k)) : Bits ((N ||| (N <<< (k * d))) % 2 ^ 1001) (Mul M d (k + k)) := fun n hn => by
  rw [Nat.testBit_mod_two_pow, Nat.testBit_or, Nat.testBit_shiftLeft, decide_eq_true (show n < 1001 by omega), Bool.true_and, Bool.or_eq_true, Bool.and_eq_true, decide_eq_true_eq, h n hn]
  constructor
  · rintro (⟨j, hj, m, e, q⟩ | ⟨h1, h2⟩)
    · exact ⟨j, by omega, m, e, q⟩
    · obtain ⟨j, hj, m, e, q⟩ := (h (n - k * d) (by omega)).mp h2
      refine ⟨j + k, by omega, m, ?_, q⟩
      have e2 : ((n - k * d : Nat) : Int) = (n : Int) - (k * d : Nat) := by omega
      rw [e2] at e
      have e3 : ((j + k : Nat) : Int) * d = j * d + (k * d : Nat) := by
        rw [Int.natCast_add, Int.add_mul, Int.natCast_mul]
      omega
  · rintro ⟨j, hj, m, e, q⟩
    by_cases hk : j < k
    · exact .inl ⟨j, hk, m, e, q⟩
    · have e3 : ((j : Nat) : Int) * d = ((j - k : Nat) : Int) * d + (k * d : Nat) := by
        rw [Int.natCast_mul, ← Int.add_mul]
        congr 1
        omega
      have hnn : (0 : Int) ≤ ((j - k : Nat) : Int) * d := Int.mul_nonneg (by omega) (by omega)
      refine .inr ⟨by omega, (h (n - k * d) (by omega)).mpr ⟨j - k, by omega, m, by omega, q⟩⟩
theorem mul_all {M d k : Nat} {g : List Int} (hM : Bits M (Sg g)) (hg : Pos g) (h : 1000 < k * d) : ∀ n : Nat, n ≤ 1000 → (Mul M d k n ↔ Sg (g ++ [(d : Int)]) n) := fun n hn => by
  rw [Sg.snoc]
  constructor
  · rintro ⟨j, hj, m, e, q⟩
    have h0 : (0 : Int) ≤ (j : Int) * d := Int.mul_nonneg (by omega) (by omega)
    exact ⟨j, m, (hM m (by omega)).mp q, e⟩
  · rintro ⟨j, t, h1, e⟩
    have ht := Sg.nonneg hg h1
    have h0 : (0 : Int) ≤ (j : Int) * d := Int.mul_nonneg (by omega) (by omega)
    obtain ⟨m, rfl⟩ := Int.eq_ofNat_of_zero_le ht
    refine ⟨j, ?_, m, e, (hM m (by omega)).mpr h1⟩
    refine Nat.lt_of_not_le fun hk => ?_
    have h2 : k * d ≤ j * d := Nat.mul_le_mul_right d hk
    have h3 : ((j * d : Nat) : Int) = (j : Int) * d := Int.natCast_mul ..
    omega
end NM

namespace NM
/-! ### going round: n0, n0 + a, .. by the remainders of m -/
theorem bez (m : Nat) : ∀ a : Nat, ∃ x : Int, ((m : Nat) : Int) ∣ (a : Int) * x - ((Nat.gcd a m : Nat) : Int) := by
  -- by Euclid, for all m
  have key : ∀ b a : Nat, ∃ x y : Int, (a : Int) * x + (b : Int) * y = ((Nat.gcd a b : Nat) : Int) := by
    intro b
    induction b using Nat.strongRecOn with
    | ind b ih =>
      intro a
      by_cases hb : b = 0
      · subst hb
        exact ⟨1, 0, by simp⟩
      · obtain ⟨x, y, e⟩ := ih (a % b) (Nat.mod_lt _ (by omega)) b
        refine ⟨y, x - (a / b : Nat) * y, ?_⟩
        have e1 : Nat.gcd a b = Nat.gcd b (a % b) := by rw [Nat.gcd_comm a b, Nat.gcd_rec b a, Nat.gcd_comm]
        rw [e1, ← e]
        have e2 : (a : Int) = (b : Int) * (a / b : Nat) + (a % b : Nat) := by exact_mod_cast (Nat.div_add_mod a b).symm
        have e3 : (a : Int) * y = (b : Int) * (a / b : Nat) * y + (a % b : Nat) * y := by
          rw [← Int.add_mul, ← e2]
        rw [e3, Int.mul_sub, Int.mul_assoc]
        omega
  intro a
  obtain ⟨x, y, e⟩ := key m a
  exact ⟨x, -y, by rw [← e, Int.mul_neg]; omega⟩
/-- c = m / gcd a m turns lead round once -/
structure Rnd (m a d c : Nat) : Prop where
  m0 : 0 < m
  a0 : 0 < a
  d_ : d = Nat.gcd a m
  c_ : c = m / d
section
variable {m a d c : Nat} (R : Rnd m a d c)
include R
theorem Rnd.d0 : 0 < d := by
  rw [R.d_]
  exact Nat.gcd_pos_of_pos_left _ R.a0
theorem Rnd.dm : d ∣ m := by
  rw [R.d_]
  exact Nat.gcd_dvd_right ..
theorem Rnd.da : d ∣ a := by
  rw [R.d_]
  exact Nat.gcd_dvd_left ..
theorem Rnd.cd : c * d = m := by
  rw [R.c_]
  exact Nat.div_mul_cancel R.dm
theorem Rnd.c0 : 0 < c := by
  refine Nat.pos_of_ne_zero fun h => ?_
  have := R.cd
  rw [h] at this
  have := R.m0
  omega
theorem Rnd.turn : (m : Int) ∣ (c : Int) * a := by
  obtain ⟨q, hq⟩ := R.da
  refine ⟨q, ?_⟩
  have : (c * a : Nat) = m * q := by rw [hq, ← Nat.mul_assoc, R.cd]
  exact_mod_cast this
theorem Rnd.far {t : Nat} (h : (m : Int) ∣ (t : Int) * a) : c ∣ t := by
  have h1 : m ∣ t * a := by exact_mod_cast h
  obtain ⟨q, hq⟩ := R.da
  have h2 : c * d ∣ (t * q) * d := by
    rw [R.cd, Nat.mul_assoc, Nat.mul_comm q d, ← hq]
    exact h1
  have h3 : c ∣ t * q := Nat.dvd_of_mul_dvd_mul_right R.d0 h2
  refine Nat.Coprime.dvd_of_dvd_mul_right ?_ h3
  have hc : (a / d).Coprime (m / d) := by
    have := Nat.coprime_div_gcd_div_gcd (m := a) (n := m) (by rw [← R.d_]; exact R.d0)
    rwa [← R.d_] at this
  have e1 : a / d = q := by rw [hq, Nat.mul_div_cancel_left _ R.d0]
  rw [e1, ← R.c_] at hc
  exact hc.symm
/-- two turns that lead to the same place -/
theorem Rnd.same {n : Int} {i j : Nat} (hi : i ≤ j) (hj : j < c) (h : (m : Int) ∣ (n + (i : Nat) * (a : Int)) - (n + (j : Nat) * (a : Int))) : i = j := by
  have h1 : (m : Int) ∣ ((j - i : Nat) : Int) * a := by
    have e : ((j - i : Nat) : Int) * a = -((n + (i : Nat) * (a : Int)) - (n + (j : Nat) * (a : Int))) := by
      have : ((j - i : Nat) : Int) = (j : Int) - i := by omega
      rw [this, Int.sub_mul]
      omega
    rw [e]
    exact Int.dvd_neg.mpr h
  have h3 := R.far h1
  by_cases hz : j - i = 0
  · omega
  · have := Nat.le_of_dvd (show 0 < j - i by omega) h3
    omega
/-- each place of the class is met -/
theorem Rnd.met {n i : Int} (h : (d : Int) ∣ i - n) : ∃ j : Nat, j < c ∧ (m : Int) ∣ i - (n + (j : Nat) * (a : Int)) := by
  obtain ⟨x, y, hx⟩ := bez m a
  rw [← R.d_] at hx
  obtain ⟨k, hk⟩ := h
  -- a * x = d + m * y, so a * (x * k) = i - n + m * (y * k)
  have hc : (0 : Int) < c := by have := R.c0; omega
  refine ⟨((x * k) % c).toNat, ?_, ?_⟩
  · have := Int.emod_lt_of_pos (x * k) hc
    have := Int.emod_nonneg (x * k) (show (c : Int) ≠ 0 by omega)
    omega
  · have e0 := Int.emod_nonneg (x * k) (show (c : Int) ≠ 0 by omega)
    rw [Int.toNat_of_nonneg e0]
    obtain ⟨t, ht⟩ := R.turn
    have e1 := Int.mul_ediv_add_emod (x * k) c
    have e2 : (x * k % c) * (a : Int) = x * k * a - (x * k / c) * (c * a) := by
      have : (x * k % c) = x * k - c * (x * k / c) := by omega
      rw [this, Int.sub_mul, Int.mul_comm (c : Int) (x * k / c), Int.mul_assoc (x * k / c) (c : Int) (a : Int)]
    have e3 : x * k * (a : Int) = (i - n) + m * (y * k) := by
      have : (a : Int) * x = d + m * y := by omega
      calc x * k * (a : Int) = (a * x) * k := by rw [Int.mul_comm (x * k), Int.mul_assoc]
        _ = d * k + m * y * k := by rw [this, Int.add_mul]
        _ = (i - n) + m * (y * k) := by rw [hk, Int.mul_assoc]
    refine ⟨(x * k / c) * t - y * k, ?_⟩
    rw [e2, e3, ht, Int.mul_sub]
    have : (x * k / c) * ((m : Int) * t) = m * ((x * k / c) * t) := by rw [Int.mul_left_comm]
    omega
end
/-! ### tables -/
abbrev Tab := List (Option Int)
/-- the place of n -/
abbrev pl (m : Nat) (n : Int) : Nat := (n % (m : Int)).toNat
theorem pl_lt {m : Nat} (h : 0 < m) (n : Int) : pl m n < m := by
  have := Int.emod_lt_of_pos n (show (0 : Int) < m by omega)
  have := Int.emod_nonneg n (show (m : Int) ≠ 0 by omega)
  unfold pl
  omega
theorem pl_eq {m : Nat} (h : 0 < m) {x y : Int} : pl m x = pl m y ↔ (m : Int) ∣ x - y := by
  have a1 := Int.emod_nonneg x (show (m : Int) ≠ 0 by omega)
  have a2 := Int.emod_nonneg y (show (m : Int) ≠ 0 by omega)
  constructor
  · intro e
    have : x % m = y % m := by unfold pl at e; omega
    exact Int.dvd_of_emod_eq_zero (Int.emod_eq_emod_iff_emod_sub_eq_zero.mp this)
  · intro e
    have := Int.emod_eq_emod_iff_emod_sub_eq_zero.mpr (Int.emod_eq_zero_of_dvd e)
    unfold pl
    rw [this]
/-- what stands in the table is a sum and in its place -/
def Sound (S : Int → Prop) (m : Nat) (L : Tab) : Prop := ∀ (i : Nat) (v : Int), L[i]? = some (some v) → S v ∧ pl m v = i
/-- there is something not greater in n's place -/
def Has (m : Nat) (L : Tab) (n : Int) : Prop := ∃ v, L[pl m n]? = some (some v) ∧ v ≤ n
theorem Has.le {m : Nat} {L : Tab} {n k : Int} (h : Has m L n) (e : (m : Int) ∣ k - n) (hm : 0 < m) (hl : n ≤ k) : Has m L k := by
  obtain ⟨v, h1, h2⟩ := h
  exact ⟨v, by rw [(pl_eq hm).mpr e]; exact h1, by omega⟩
/-- L' is not greater anywhere -/
def Low (L L' : Tab) : Prop := ∀ (i : Nat) (v : Int), L[i]? = some (some v) → ∃ v', L'[i]? = some (some v') ∧ v' ≤ v
theorem Low.refl (L : Tab) : Low L L := fun i v h => ⟨v, h, by omega⟩
theorem Low.trans {L L' L'' : Tab} (h : Low L L') (k : Low L' L'') : Low L L'' := fun i v e => by
  obtain ⟨v', h1, h2⟩ := h i v e
  obtain ⟨v'', h3, h4⟩ := k i v' h1
  exact ⟨v'', h3, by omega⟩
theorem Has.low {m : Nat} {L L' : Tab} {n : Int} (h : Has m L n) (k : Low L L') : Has m L' n := by
  obtain ⟨v, h1, h2⟩ := h
  obtain ⟨v', h3, h4⟩ := k _ v h1
  exact ⟨v', h3, by omega⟩
/-- one step on from place i -/
def Clo (m a : Nat) (L : Tab) (i : Nat) : Prop := ∀ v, L[i]? = some (some v) → Has m L (v + a)
/-- one turn of the inner loop -/
def turnV (m a : Nat) (L : Tab) (u : Int) : Int := match L[pl m (u + a)]? with
  | some (some k) => if k < u + a then k else u + a
  | _ => u + a
def turnL (m a : Nat) (L : Tab) (u : Int) : Tab := L.set (pl m (u + a)) (some (turnV m a L u))
structure Inn (S : Int → Prop) (m a d : Nat) (n0 : Int) (L0 : Tab) (t : Nat) (L : Tab) (u : Int) : Prop where
  len : L.length = m
  cur : (m : Int) ∣ u - (n0 + (t : Nat) * (a : Int))
  at_ : L[pl m u]? = some (some u)
  ge : n0 ≤ u
  sound : Sound S m L
  le : Low L0 L
  away : ∀ i : Nat, ¬ (d : Int) ∣ (i : Int) - n0 → L[i]? = L0[i]?
  low : ∀ (i : Nat) (v : Int), (d : Int) ∣ (i : Int) - n0 → L[i]? = some (some v) → n0 ≤ v
  st : L[pl m n0]? = some (some n0)
  chain : ∀ j : Nat, j < t → ∃ v v', L[pl m (n0 + (j : Nat) * (a : Int))]? = some (some v) ∧ L[pl m (n0 + ((j + 1 : Nat) : Nat) * (a : Int))]? = some (some v') ∧ v' ≤ v + a
theorem pl_mod {m d : Nat} (hm : 0 < m) (h : d ∣ m) (n : Int) : (d : Int) ∣ (pl m n : Int) - n := by
  have a1 := Int.emod_nonneg n (show (m : Int) ≠ 0 by omega)
  have e : ((pl m n : Nat) : Int) = n % m := by unfold pl; omega
  obtain ⟨q, hq⟩ := h
  refine ⟨-(q * (n / m)), ?_⟩
  have := Int.emod_def n m
  rw [e, this, Int.mul_neg, ← Int.mul_assoc]
  have : ((d : Nat) : Int) * q = m := by exact_mod_cast hq.symm
  rw [this]
  omega
section
variable {S : Int → Prop} {m a d c : Nat} {n0 : Int} {L0 L : Tab} {t : Nat} {u : Int} (R : Rnd m a d c)
include R
theorem Inn.turn (I : Inn S m a d n0 L0 t L u) (ht : t < c) (hS : ∀ s, S s → S (s + a)) : Inn S m a d n0 L0 (t + 1) (turnL m a L u) (turnV m a L u) := by
  have hm := R.m0
  have hp := pl_lt hm (u + a)
  -- the new value
  have hSu : S u := (I.sound _ _ I.at_).1
  have hclass : (d : Int) ∣ (u + a) - n0 := by
    have h1 : (d : Int) ∣ u - (n0 + (t : Nat) * (a : Int)) := Int.dvd_trans (Int.ofNat_dvd.mpr R.dm) I.cur
    have h2 : (d : Int) ∣ ((t + 1 : Nat) : Int) * a := Int.dvd_mul_of_dvd_right (Int.ofNat_dvd.mpr R.da)
    have e : (u + a) - n0 = (u - (n0 + (t : Nat) * (a : Int))) + ((t + 1 : Nat) : Int) * a := by
      have : ((t + 1 : Nat) : Int) * a = t * a + a := by rw [Int.natCast_add, Int.add_mul]; simp
      omega
    rw [e]
    exact Int.dvd_add h1 h2
  have hpc : (d : Int) ∣ ((pl m (u + a) : Nat) : Int) - n0 := by
    have h1 := pl_mod hm R.dm (u + a)
    have e : ((pl m (u + a) : Nat) : Int) - n0 = ((pl m (u + a) : Nat) : Int) - (u + a) + ((u + a) - n0) := by omega
    rw [e]
    exact Int.dvd_add h1 hclass
  have hv : S (turnV m a L u) ∧ pl m (turnV m a L u) = pl m (u + a) ∧ n0 ≤ turnV m a L u ∧ turnV m a L u ≤ u + a ∧ ∀ k, L[pl m (u + a)]? = some (some k) → turnV m a L u ≤ k := by
    unfold turnV
    split
    · rename_i k hk
      obtain ⟨k1, k2⟩ := I.sound _ _ hk
      have k3 := I.low _ _ hpc hk
      split
      · refine ⟨k1, k2, k3, by omega, fun k' hk' => ?_⟩
        rw [hk] at hk'
        cases hk'
        omega
      · refine ⟨hS u hSu, rfl, by have := I.ge; omega, by omega, fun k' hk' => ?_⟩
        rw [hk] at hk'
        cases hk'
        omega
    · rename_i hk
      exact ⟨hS u hSu, rfl, by have := I.ge; omega, by omega, fun k' hk' => (hk k' hk').elim⟩
  obtain ⟨v1, v2, v3, v4, v5⟩ := hv
  have hcur : (m : Int) ∣ (u + a) - (n0 + ((t + 1 : Nat) : Nat) * (a : Int)) := by
    have e : (u + a) - (n0 + ((t + 1 : Nat) : Nat) * (a : Int)) = u - (n0 + (t : Nat) * (a : Int)) := by
      have : ((t + 1 : Nat) : Int) * a = t * a + a := by rw [Int.natCast_add, Int.add_mul]; simp
      omega
    rw [e]
    exact I.cur
  have hpe : pl m (u + a) = pl m (n0 + ((t + 1 : Nat) : Nat) * (a : Int)) := (pl_eq hm).mpr hcur
  have hut : pl m u = pl m (n0 + (t : Nat) * (a : Int)) := (pl_eq hm).mpr I.cur
  have get_same : (turnL m a L u)[pl m (u + a)]? = some (some (turnV m a L u)) := by
    unfold turnL
    rw [List.getElem?_set_self (by rw [I.len]; exact hp)]
  have get_ne : ∀ i, i ≠ pl m (u + a) → (turnL m a L u)[i]? = L[i]? := fun i hi => by
    unfold turnL
    rw [List.getElem?_set_ne (fun e => hi e.symm)]
  -- where the round closes, nothing changes
  have hst : (turnL m a L u)[pl m n0]? = some (some n0) := by
    by_cases e : pl m n0 = pl m (u + a)
    · rw [e, get_same]
      have h1 := v5 n0 (by rw [← e]; exact I.st)
      have : turnV m a L u = n0 := by omega
      rw [this]
    · rw [get_ne _ e]
      exact I.st
  refine ⟨?_, ?_, ?_, v3, ?_, ?_, ?_, ?_, hst, ?_⟩
  · unfold turnL
    rw [List.length_set]
    exact I.len
  · have h1 := (pl_eq hm).mp v2
    have e : turnV m a L u - (n0 + ((t + 1 : Nat) : Nat) * (a : Int)) = (turnV m a L u - (u + a)) + ((u + a) - (n0 + ((t + 1 : Nat) : Nat) * (a : Int))) := by omega
    rw [e]
    exact Int.dvd_add h1 hcur
  · rw [v2]
    exact get_same
  · intro i v h
    by_cases e : i = pl m (u + a)
    · subst e
      rw [get_same] at h
      cases h
      exact ⟨v1, v2⟩
    · rw [get_ne _ e] at h
      exact I.sound i v h
  · intro i v h
    obtain ⟨v', h1, h2⟩ := I.le i v h
    by_cases e : i = pl m (u + a)
    · subst e
      exact ⟨_, get_same, by have := v5 v' h1; omega⟩
    · exact ⟨v', by rw [get_ne _ e]; exact h1, h2⟩
  · intro i hi
    rw [get_ne i fun e => hi (by rw [e]; exact hpc)]
    exact I.away i hi
  · intro i v hi h
    by_cases e : i = pl m (u + a)
    · subst e
      rw [get_same] at h
      cases h
      exact v3
    · rw [get_ne _ e] at h
      exact I.low i v hi h
  · -- the chain
    by_cases hc : t + 1 = c
    · -- back at n0
      have hback : pl m (u + a) = pl m n0 := by
        rw [hpe]
        refine (pl_eq hm).mpr ?_
        have e : n0 + ((t + 1 : Nat) : Nat) * (a : Int) - n0 = (c : Int) * a := by rw [hc]; omega
        rw [e]
        exact R.turn
      have same : ∀ i, (turnL m a L u)[i]? = L[i]? := fun i => by
        by_cases e : i = pl m (u + a)
        · rw [e, hback, hst, I.st]
        · exact get_ne i e
      intro j hj
      by_cases hjt : j < t
      · obtain ⟨v, v', h1, h2, h3⟩ := I.chain j hjt
        exact ⟨v, v', by rw [same]; exact h1, by rw [same]; exact h2, h3⟩
      · have : j = t := by omega
        subst this
        exact ⟨u, _, by rw [same, ← hut]; exact I.at_, by rw [← hpe]; exact get_same, v4⟩
    · have far : ∀ j : Nat, j ≤ t → pl m (n0 + (j : Nat) * (a : Int)) ≠ pl m (u + a) := fun j hj e => by
        rw [hpe] at e
        have := R.same (n := n0) (show j ≤ t + 1 by omega) (by omega) ((pl_eq hm).mp e)
        omega
      intro j hj
      by_cases hjt : j < t
      · obtain ⟨v, v', h1, h2, h3⟩ := I.chain j hjt
        exact ⟨v, v', by rw [get_ne _ (far j (by omega))]; exact h1, by rw [get_ne _ (far (j + 1) (by omega))]; exact h2, h3⟩
      · have : j = t := by omega
        subst this
        exact ⟨u, _, by rw [get_ne _ (far j (by omega)), ← hut]; exact I.at_, by rw [← hpe]; exact get_same, v4⟩
/-- behind the round: each place of the class leads on -/
theorem Inn.closed (I : Inn S m a d n0 L0 c L u) : ∀ i : Nat, i < m → (d : Int) ∣ (i : Int) - n0 → Clo m a L i := fun i hi hd v hv => by
  have hm := R.m0
  obtain ⟨j, hj, e⟩ := R.met hd
  obtain ⟨w, w', h1, h2, h3⟩ := I.chain j hj
  have hpi : pl m ((i : Nat) : Int) = i := by
    unfold pl
    rw [Int.emod_eq_of_lt (by omega) (by omega)]
    rfl
  have e1 : i = pl m (n0 + (j : Nat) * (a : Int)) := by rw [← hpi]; exact (pl_eq hm).mpr e
  rw [← e1, hv] at h1
  cases h1
  refine ⟨w', ?_, h3⟩
  have h4 := (I.sound i v hv).2
  have h5 : (m : Int) ∣ v - (n0 + (j : Nat) * (a : Int)) := (pl_eq hm).mp (by rw [h4]; exact e1)
  have e2 : pl m (v + a) = pl m (n0 + ((j + 1 : Nat) : Nat) * (a : Int)) := by
    refine (pl_eq hm).mpr ?_
    have e : v + a - (n0 + ((j + 1 : Nat) : Nat) * (a : Int)) = v - (n0 + (j : Nat) * (a : Int)) := by
      have : ((j + 1 : Nat) : Int) * a = j * a + a := by rw [Int.natCast_add, Int.add_mul]; simp
      omega
    rw [e]
    exact h5
  rw [e2]
  exact h2
end
/-! ### one number more -/
/-- behind the classes below f -/
structure Cls (g : List Int) (m a d : Nat) (L0 : Tab) (f : Nat) (L : Tab) : Prop where
  len : L.length = m
  sound : Sound (Sg (g ++ [(a : Int)])) m L
  le : Low L0 L
  clo : ∀ i : Nat, i < m → i % d < f → Clo m a L i
/-- all sums of g have their least one -/
structure TabS (g : List Int) (m : Nat) (L : Tab) : Prop where
  len : L.length = m
  sound : Sound (Sg g) m L
  has : ∀ s, Sg g s → Has m L s
theorem Cls.start {g : List Int} {m a d : Nat} {L : Tab} (h : TabS g m L) : Cls g m a d L 0 L :=
  ⟨h.len, fun i v e => ⟨(h.sound i v e).1.up fun b hb => List.mem_append_left _ hb, (h.sound i v e).2⟩, .refl L, fun i _ h => by omega⟩
theorem Cls.done {g : List Int} {m a d c : Nat} {L0 L : Tab} (R : Rnd m a d c) (h0 : TabS g m L0) (h : Cls g m a d L0 d L) : TabS (g ++ [(a : Int)]) m L := by
  refine ⟨h.len, h.sound, fun s q => ?_⟩
  obtain ⟨k, t, h1, rfl⟩ := Sg.snoc.mp q
  clear q
  have hm := R.m0
  induction k with
  | zero =>
    have := (h0.has t h1).low h.le
    simpa using this
  | succ k ih =>
    obtain ⟨v, h2, h3⟩ := ih
    have h4 := h.clo _ (pl_lt hm _) (Nat.mod_lt _ R.d0) v h2
    have h5 := (h.sound _ _ h2).2
    have e : ((k + 1 : Nat) : Int) * a = k * a + a := by rw [Int.natCast_add, Int.add_mul]; simp
    refine h4.le ?_ hm (by omega)
    have h6 := (pl_eq hm).mp h5
    have e2 : t + ((k + 1 : Nat) : Int) * a - (v + a) = -(v - (t + (k : Nat) * (a : Int))) := by omega
    rw [e2]
    exact Int.dvd_neg.mpr h6
/-- a class without sums -/
theorem Cls.skip {g : List Int} {m a d f : Nat} {L0 L : Tab} (h : Cls g m a d L0 f L) (hn : ∀ (i : Nat) (v : Int), i < m → i % d = f → L[i]? ≠ some (some v)) : Cls g m a d L0 (f + 1) L :=
  ⟨h.len, h.sound, h.le, fun i hi hf => by
    by_cases e : i % d = f
    · exact fun v hv => (hn i v hi e hv).elim
    · exact h.clo i hi (by omega)⟩
theorem Cls.inn {g : List Int} {m a d c f : Nat} {L0 L : Tab} (R : Rnd m a d c) (h : Cls g m a d L0 f L) {p : Nat} {n0 : Int} (hp : p < m) (hf : p % d = f) (h1 : L[p]? = some (some n0)) (h2 : ∀ (i : Nat) (v : Int), i < m → i % d = f → L[i]? = some (some v) → n0 ≤ v) :
    Inn (Sg (g ++ [(a : Int)])) m a d n0 L 0 L n0 := by
  have hpl := (h.sound p n0 h1).2
  refine ⟨h.len, by simp, by rw [hpl]; exact h1, by omega, h.sound, .refl L, fun i _ => rfl, fun i v hi hv => ?_, by rw [hpl]; exact h1, fun j hj => by omega⟩
  have hi2 : i < m := by
    have := (List.getElem?_eq_some_iff.mp hv).1
    have := h.len
    omega
  refine h2 i v hi2 ?_ hv
  have h3 := pl_mod R.m0 R.dm n0
  rw [hpl] at h3
  have h4 : (d : Int) ∣ (i : Int) - (p : Int) := by
    have e : (i : Int) - p = (i - n0) - (p - n0) := by omega
    rw [e]
    exact Int.dvd_sub hi h3
  have h5 : (i : Int) % d = (p : Int) % d := Int.emod_eq_emod_iff_emod_sub_eq_zero.mpr (Int.emod_eq_zero_of_dvd h4)
  rw [← hf]
  exact_mod_cast h5
theorem Cls.next {g : List Int} {m a d c f : Nat} {L0 L L' : Tab} {n0 u : Int} (R : Rnd m a d c) (h : Cls g m a d L0 f L) (hn : (pl m n0) % d = f) (I : Inn (Sg (g ++ [(a : Int)])) m a d n0 L c L' u) : Cls g m a d L0 (f + 1) L' := by
  have cls : ∀ i : Nat, i < m → ((d : Int) ∣ (i : Int) - n0 ↔ i % d = f) := fun i hi => by
    have h3 := pl_mod R.m0 R.dm n0
    constructor
    · intro q
      have h4 : (d : Int) ∣ (i : Int) - (pl m n0 : Nat) := by
        have e : (i : Int) - (pl m n0 : Nat) = (i - n0) - ((pl m n0 : Nat) - n0) := by omega
        rw [e]
        exact Int.dvd_sub q h3
      have h5 : (i : Int) % d = ((pl m n0 : Nat) : Int) % d := Int.emod_eq_emod_iff_emod_sub_eq_zero.mpr (Int.emod_eq_zero_of_dvd h4)
      rw [← hn]
      exact_mod_cast h5
    · intro q
      have h5 : (i : Int) % d = ((pl m n0 : Nat) : Int) % d := by exact_mod_cast q.trans hn.symm
      have h6 := Int.dvd_of_emod_eq_zero (Int.emod_eq_emod_iff_emod_sub_eq_zero.mp h5)
      have e : (i : Int) - n0 = (i - (pl m n0 : Nat)) + ((pl m n0 : Nat) - n0) := by omega
      rw [e]
      exact Int.dvd_add h6 h3
  refine ⟨I.len, I.sound, h.le.trans I.le, fun i hi hf => ?_⟩
  by_cases e : i % d = f
  · exact I.closed R i hi ((cls i hi).mpr e)
  · intro v hv
    have hni : ¬ (d : Int) ∣ (i : Int) - n0 := fun q => e ((cls i hi).mp q)
    rw [I.away i hni] at hv
    have h7 := h.clo i hi (by omega) v hv
    exact h7.low I.le
theorem tab_start {m : Nat} (hm : 0 < m) : TabS [] m ((List.replicate m none).set 0 (some 0)) := by
  refine ⟨by simp, fun i v h => ?_, fun s q => ?_⟩
  · rw [List.getElem?_set] at h
    split at h
    · rename_i e
      subst e
      simp [hm] at h
      subst h
      exact ⟨.zero, by simp [pl]⟩
    · rw [List.getElem?_replicate] at h
      split at h <;> simp at h
  · rw [sg_nil] at q
    subst q
    exact ⟨0, by simp [pl, hm], by omega⟩
/-- membership told by the table -/
def holds (m : Nat) (L : Tab) (n : Int) : Bool := match L[pl m n]? with
  | some (some v) => decide (v ≤ n)
  | _ => false
theorem TabS.holds {g : List Int} {m : Nat} {L : Tab} (h : TabS g m L) (hm : 0 < m) (hg : Sg g m) {n : Int} (hn : 0 ≤ n) : holds m L n = true ↔ Sg g n := by
  unfold NM.holds
  constructor
  · intro q
    split at q
    · rename_i v hv
      have hle := of_decide_eq_true q
      obtain ⟨h1, h2⟩ := h.sound _ _ hv
      obtain ⟨k, hk⟩ := (pl_eq hm).mp h2.symm
      have hk0 : 0 ≤ k := by
        refine Int.not_lt.mp fun hneg => ?_
        have : (m : Int) * k < 0 := Int.mul_neg_of_pos_of_neg (by omega) hneg
        omega
      obtain ⟨j, rfl⟩ := Int.eq_ofNat_of_zero_le hk0
      have e : n = v + (j : Nat) * (m : Int) := by rw [Int.mul_comm]; omega
      rw [e]
      exact h1.plus (hg.mul j)
    · cases q
  · intro q
    obtain ⟨v, h1, h2⟩ := h.has n q
    rw [h1]
    exact decide_eq_true h2
end NM

/-! properties and isinstance of an own class. -/
namespace Z
open PySem PySem.Spec PyProof.Rows L2
section
variable {P : Program} {w : World} {K : PySem.W.Frag} {mg : Str → Option Value} {base : Heap}
/-- a property f of C that gives the field fld -/
structure Prp (P : Program) (w : World) (K : PySem.W.Frag) (mg : Str → Option Value) (base : Heap) (k : Nat) (C : Addr) (f fld : Str) : Prop where
  ex : ∃ p g fd, Cls K C ∧ PropOf K C f p g ∧ Binds K fd ["self"] [] ∧ FnOk P w K mg base (L2.CX P w) k g fd ["self"] (getSp C fld)
theorem pe_prp {X : Cx} {k j : Nat} {C : Addr} {f fld : Str} {e : Expr} {ta : TE} {pos : Pos} (c : Prp X.prog X.w X.K X.mg X.base k C f fld) (hr : Room j X.A) (hkj : k + 1 ≤ j) (he : PE X e ta) (hab : attributeBase e f X.env (eval e X.env) = eval e X.env := by rfl) :
    PE X (.Attribute e f pos) (tProp C (getSp C fld) [] E0 ta) := by
  obtain ⟨p, g, fd, hc, hp, hb, F⟩ := c.ex
  exact pe_prop he hc hp F (hr.mono hkj) hb .nil passL hab
/-- what isinstance asks of a class -/
structure IsC (K : PySem.W.Frag) (C : Addr) : Prop where
  c : PySem.W.findIn K (.ref C) "__class__" = some (some (.builtin "object.__class__"))
  g : PySem.W.specialIn K (.builtin "object.__class__") "__get__" = some (some (.builtin "getset_descriptor.__get__"))
  t : PySem.W.takesIn K (.builtin "object.__class__") = some true
  o : PySem.W.mroIn K C (.type "object") = some true
theorem isi_own {C a dx : Addr} {fs : List (Str × V)} {H : Hp} {Q : VK} (hc : Cls K C) (i : IsC K C) (h : H a = some (.ins C dx fs)) (q : Q (.bl true) H) : rIsi K [.ref a, .ref C] H Q :=
  ⟨.ref a, .ref C, .ref C, .ref C, true, rfl, .own C, .base (.ins h hc i.c i.g i.t i.o), by unfold PySem.W.kitOne; simp, q⟩
end
end Z

/-! str(o), o of an own class with __str__. -/
namespace Z
open PySem PySem.Spec PyProof.Rows L2
section
variable {X : Cx} {C f : Addr} {fd : FuncData} {k : Nat} {sp : Sp}
def rStrO (C : Addr) (sp : Sp) : List V → Hp → VK → Prop := fun vs H Q => ∃ a dx fs, vs = [.ref a] ∧ H a = some (.ins C dx fs) ∧ sp [.ref a] H (fun v H' => ∃ y, v = .str y ∧ Q v H') E0
theorem call_strO (c : Mtd X.prog X.w X.K X.mg X.base k C "__str__" ["self"] sp) {j : Nat} (hr : Room j X.A) (hj : k + 2 ≤ j) : CallR X (.type "str") (rStrO C sp) := by
  intro pins s σ H xs us Q I r h
  obtain ⟨a, dx, fs, rfl, ea, q⟩ := h
  obtain ⟨f, fd, hc, hm, hb, F⟩ := c.ex
  have hr2 : Room (k + 2) X.A := hr.mono hj
  cases r with
  | cons r rr =>
    cases rr
    cases r
    obtain ⟨mA, O, _, _, _, _⟩ := ins_get I.hok ea
    obtain ⟨od, J, _⟩ := O.look
    refine PySem.W.kso_call (f := f) (by have := hr2.in1.in1.un; omega) I.kIn J hm.at_ hm.fn ?_
    refine wpAny_call (codeAny_mono (F.run X.A.in1.in1 X.stack s H ⟨[.ref a], []⟩ [.ref a] [.ref a] _ E0 hr2.in1.in1 I.env0.in1.in1 (hb s [.ref a] I.kIn rfl) (.cons rfl .nil) q) fun r s' hq => ?_)
    cases r with
    | error er =>
      obtain ⟨_, _, _, _, _, _, _, _, _, _, _, _, z⟩ := (show L2.CX X.prog X.w X.stack H s E0 er s' from hq)
      exact z.elim
    | ok fl =>
      cases fl with
      | ret u =>
        obtain ⟨v, H', I3, rv, y, ev, q3⟩ := I.after hq
        subst ev
        obtain ⟨t, rfl⟩ := rv
        exact ⟨.str y, H', I3, ⟨t, rfl⟩, q3⟩
      | next => exact False.elim hq
      | brk => exact False.elim hq
      | cont => exact False.elim hq
end
end Z

/-! t[::-1], t a tuple. -/
namespace Z
open PySem PySem.Spec PyProof.Rows L2 HT
section
variable {prog : Program} {w : World} {A : Around} {E : Value → Shared → Prop} {s : Shared}
theorem rev_adjust (n : Nat) : Builtin.Slice.sliceAdjust none none (-1) (n : Int) = ((n : Int) - 1, -1) := by
  unfold Builtin.Slice.sliceAdjust
  simp
theorem rev_places (n : Nat) : Builtin.Slice.slicePlaces ((n : Int) - 1) (-1) (-1) = n := by
  unfold Builtin.Slice.slicePlaces
  rw [if_neg (by decide)]
  by_cases h : (n : Int) - 1 > -1
  · rw [if_pos h, show (-(-1) : Int) = 1 by decide, Int.ediv_one]
    omega
  · rw [if_neg h]
    omega
theorem rev_pick (xs : Array Value) : ((List.range xs.size).filterMap fun (m : Nat) => xs[(((xs.size : Int) - 1) + (m : Int) * (-1)).toNat]?).toArray = xs.toList.reverse.toArray := by
  congr 1
  have e : (fun (m : Nat) => xs[(((xs.size : Int) - 1) + (m : Int) * (-1)).toNat]?) = (fun k => xs[k]?) ∘ fun m => xs.size - 1 - m := by
    funext m
    have : (((xs.size : Int) - 1) + (m : Int) * (-1)).toNat = xs.size - 1 - m := by omega
    show _ = xs[xs.size - 1 - m]?
    rw [this]
  rw [e, ← List.filterMap_map, PySem.W.krv_range, List.filterMap_reverse, PySem.W.krv_all]
theorem sliceApplied_rev {sl : Addr} {u : Tok} {n : Nat} {Q : Int × Int × Nat → Shared → Prop} (hs : s.heap.IsSliceOf sl .none .none (.int (-1) u))
    (h : Q ((n : Int) - 1, -1, n) s) : wpAny (model prog w) A (Builtin.Slice.sliceApplied (.ref sl) (pure (n : Int))) Q E s := by
  obtain ⟨os, hos, hcs, hds⟩ := id hs
  unfold Builtin.Slice.sliceApplied Builtin.Slice.sliceFields
  refine wpAny_bind (wpAny_bind (wpAny_field hos hds (x := .none) rfl (wpAny_bind (wpAny_field hos hds (x := .none) rfl (wpAny_bind (wpAny_field hos hds (x := .int (-1) u) rfl (wpAny_pure ?_)))))))
  refine wpAny_bind (slicePart_int ?_)
  show wpAny _ _ (if ((-1 : Int) == 0) = true then _ else _) _ _ s
  rw [if_neg (by decide)]
  refine wpAny_bind (slicePart_none (wpAny_bind (slicePart_none (wpAny_bind (wpAny_pure ?_)))))
  show wpAny _ _ (match Builtin.Slice.sliceAdjust none none (-1) (n : Int) with | (lo, hi) => pure (lo, (-1 : Int), Builtin.Slice.slicePlaces lo hi (-1))) _ _ s
  rw [rev_adjust n]
  show wpAny _ _ (pure ((n : Int) - 1, (-1 : Int), Builtin.Slice.slicePlaces ((n : Int) - 1) (-1) (-1))) _ _ s
  rw [rev_places]
  exact wpAny_pure h
theorem getItem_tuple_rev {t sl : Addr} {items : Array Value} {u : Tok} {Q : Value → Shared → Prop} (ht : IsTup s.heap t items) (hs : s.heap.IsSliceOf sl .none .none (.int (-1) u))
    (h : Q (.ref s.heap.objs.size) { s with heap := s.heap.push { cls := .type "tuple", data := .seq items.toList.reverse.toArray } })
    (hsz : items.size ≤ sizeLine) : wpAny (model prog w) A (getItem (.ref t) (.ref sl)) Q E s := by
  have htake : sizeOk (.seq items.toList.reverse.toArray) := by
    show items.toList.reverse.toArray.size ≤ sizeLine
    rw [List.size_toArray, List.length_reverse, Array.length_toList]
    exact hsz
  obtain ⟨os, hos, hcs, hds⟩ := id hs
  have hTs : s.TypeIs (.ref sl) "slice" := ⟨os, hos, hcs⟩
  unfold getItem
  try with_reducible refine wpAny_holding ?_
  first | refine wpAny_bind (wpAny_pure ?_) | skip
  refine wpAny_bind (wpAny_sequenceKey ht.typeIs (by decide) ?_)
  refine wpAny_bind (wpAny_callSpecial?_slot (name := Str.ofString "__getitem__") ht.typeIs PyProof.Rows.slot_tuple_getitem
    (wpAny_call_entry PyProof.Rows.slot_tuple_getitem ht.typeIs entry_tuple_getitem ?_ (args_tuple_getitem _ _)))
  show wpAny _ _ (Builtin.Tuple.tupleItemsOf (.ref t) >>= _) _ _ s
  refine wpAny_bind (tupleItemsOf_ ht ?_)
  refine wpAny_bind (wpAny_typeOf hTs ?_)
  rw [if_pos (by decide)]
  refine wpAny_bind (sliceApplied_rev hs ?_)
  have hno : ¬ ((((items.size : Int) - 1) == 0 && (-1 : Int) == 1 && items.size == items.size) = true) := by
    have : ((-1 : Int) == 1) = false := by decide
    rw [this]; simp
  show wpAny _ _ (if ((((items.size : Int) - 1) == 0 && (-1 : Int) == 1 && items.size == items.size) = true) then _ else _) _ _ s
  rw [if_neg hno, rev_pick]
  first
    | exact wpAny_bind (m := Builtin.Tuple.tupleExact _) (wpAny_newObj_type (wpAny_pure ⟨_, rfl, wpAny_pure h⟩) htake)
    | exact wpAny_bind (m := Builtin.Tuple.tupleExact _) (wpAny_newObj_type (wpAny_bind (wpAny_pure (wpAny_pure ⟨_, rfl, wpAny_pure h⟩))) htake)
    | exact wpAny_bind (wpAny_bind (m := Builtin.Tuple.tupleExact _) (wpAny_newObj_type (wpAny_pure (wpAny_pure ⟨_, rfl, wpAny_pure h⟩)) htake))
    | exact wpAny_bind (wpAny_bind (m := Builtin.Tuple.tupleExact _) (wpAny_newObj_type (wpAny_pure ⟨_, rfl, wpAny_pure h⟩) htake))
end
section
variable {X : Cx}
def tRevT (K : PySem.W.Frag) (te : TE) : TE := fun σ H Q => te σ H fun x H1 => ∃ a xs, x = .ref a ∧ SqT K H1 a xs ∧ ∀ p, H1 p = none → Q (.ref p) (upd H1 p (.tup xs.reverse))
theorem pe_revT {e : Expr} {te : TE} {k : Nat} {p1 p2 p3 pos : Pos} (he : PE X e te) : PE X (.Subscript e (.Slice none none (some (.UnaryOp .USub (.Constant (.int 1) k p1) p2)) p3) pos) (tRevT X.K te) := by
  refine ⟨fun pins s σ H Q I h => ?_⟩
  refine Subscript_ (thn (he.run pins s σ H _ I h) fun v s1 ⟨x, H1, I1, r1, q1⟩ => ?_)
  obtain ⟨a, xs, ex, hx, q⟩ := q1
  subst ex
  cases r1
  have hst : PO X (some (.UnaryOp .USub (.Constant (.int 1) k p1) p2)) (tPart (tUn (rU fun i => .int (-i)) (tC (.int 1)))) := po_some (pe_un un_neg pe_int)
  refine wpAny_Slice (thn (po_none.run pins s1 σ H1 (fun o H2 => o = none ∧ H2 = H1) I1 ⟨rfl, rfl⟩) fun vl s2 ⟨l, H2, I2, pl, el, e2⟩ => ?_)
  subst el e2
  refine thn (po_none.run pins s2 σ H2 (fun o H3 => o = none ∧ H3 = H2) I2 ⟨rfl, rfl⟩) fun vu s3 ⟨u, H3, I3, pu, eu, e3⟩ => ?_
  subst eu e3
  refine thn (hst.run pins s3 σ H3 (fun o H4 => o = some (-1) ∧ H4 = H3) I3 ⟨1, rfl, -1, rfl, rfl, rfl⟩) fun vs s4 ⟨o, H4, I4, ps, eo, e4⟩ => ?_
  subst eo e4
  cases pl
  cases pu
  cases ps with
  | int _ u9 =>
    have I5 : Inv X pins σ H4 { s4 with heap := s4.heap.push { cls := .type "slice", data := .fields #[.none, .none, .int (-1) u9] } } := I4.kept (t' := s4.toks) fun b ob q => Heap.get?_push_of_some _ q
    obtain ⟨its, r, ht, hz⟩ := I5.tuple hx
    have hlen := r.length
    show wpAny (model X.prog X.w) X.A (subscriptTail e (.Slice none none (some (.UnaryOp .USub (.Constant (.int 1) k p1) p2)) p3) (.ref a) (.ref s4.heap.objs.size)) (EP X pins σ Q) X.xe { s4 with heap := s4.heap.push { cls := .type "slice", data := .fields #[.none, .none, .int (-1) u9] } }
    refine tail_any (ops := [.ref a, .ref s4.heap.objs.size]) ht.typeIs PyProof.Rows.slot_tuple_getitem.lookup ?_ (by with_unfolding_all rfl)
    refine getItem_tuple_rev ht (Heap.IsSliceOf.new _ _ _ _) ?_ (by rw [List.size_toArray]; omega)
    refine ⟨.ref _, _, I5.laid (t' := s4.toks) (o := .tup xs.reverse) (fun b ob q => Heap.get?_push_of_some _ q) (Nat.le_refl _) ?_, rfl, q _ (I5.hok.fresh (Nat.le_refl _))⟩
    exact ⟨by rw [List.length_reverse]; exact hz, _, r.reverse, IsTup.new _ _⟩
end
end Z

namespace K11
open PySem PySem.Spec PyProof.Rows L2 Z
local macro_rules | `(tactic| walk_at "rd") => `(tactic| try simp only [cxOf, tSeq, tIfS, tRet, tRetN, tAsg, tDrop, tNext, tBreak, tCont, tNever, tPar, tPar3, tAug, gName, gTup, gCons, gNil, gSub, tVar, tC, tOp, tUn, tCB, tBM, tBM0, tCons, tNil, tTest, tB, tAnd, tOr, tNot, tAndV, tOrV, tNotV, tIf, tChain,
  tTup, tLst, tCall, tMeth, tSl, tPart, tNoPart, tM1, tFmt, tJs_nil, tJs_cons, tCKw, rI0, rI, rU, rEq, rNe, scal_ii, scal_ss, scal_bb, ipI, iStr, iTup, iList, iRng1, sFld, tFld, L2.start, List.getElem?_cons_zero, List.getElem?_cons_succ, List.set_cons_zero, List.set_cons_succ, Option.some.injEq, V.int.injEq, V.bl.injEq, V.str.injEq, V.ref.injEq,
  List.cons.injEq, exists_and_left, exists_eq_left', exists_eq_left, exists_eq_right, exists_eq_right', exists_eq', exists_eq, and_true, true_and, and_self, List.map_cons, List.map_nil, List.length_cons, List.length_nil, List.replicate_succ, List.replicate_zero, List.cons_append, List.nil_append, List.append_nil,
  Nat.add_sub_cancel, Nat.reduceAdd, Nat.reduceSub, if_true, if_false, ite_true, ite_false, Bool.not_true, Bool.not_false, Bool.true_eq_false, Bool.false_eq_true, reduceIte, reduceCtorEq, false_and, exists_false, or_false, false_or, decide_true, decide_false, wipe])

def topS (i : Nat) : Stmt := PySem.Challenge.pw_evenboxes_k11_whole_dues_fit_together.main.body.getD i (.Pass ⟨0, 0, 0, 0⟩)
section
variable {P : Program} {w : World} {K : PySem.W.Frag} {mg : Str → Option Value} {base : Heap}
/-! ### is_integer, is_number, is_integer_within -/
abbrev s_is_integer : Stmt := topS 17
theorem sc_is_integer : FnScope ["value"] ["value"] (defScope s_is_integer) := ⟨rfl, rfl, rfl, by decide +kernel, rfl, by decide +kernel, by decide +kernel⟩
def spIsInt (K : PySem.W.Frag) : Sp := fun vs H Q _ => ∃ v d, vs = [v] ∧ DT K H v d ∧ Q (.bl d.isInt) H
theorem ok_is_integer (B : Bl mg) (D0 : Df K mg "is_integer" s_is_integer) : Cal P w K mg base 1 "is_integer" ["value"] (spIsInt K) := by
  refine D0.cal sc_is_integer (fun _ _ _ _ _ _ us hl => match us, hl with | [_], _ => rfl) (fun vs H Q E h => ?_) (fun f cdv A outer s H vs Q E hr h => ?_)
  · obtain ⟨v, d, rfl, _⟩ := h
    rfl
  · obtain ⟨v, d, rfl, hd, q⟩ := h
    refine ⟨_, (pss_one (ps_ret (pe_and (pe_callB (r := rIsi K) call_isi (by rfl) B.isinstance_ (by decide +kernel) (pa_cons (pv 0) (pa_cons (pe_bltn (by rfl) B.int_ (by decide +kernel) (v := .ty "int") rfl) pa_nil))) (pe_one (pe_not (pe_callB (r := rIsi K) call_isi (by rfl) B.isinstance_ (by decide +kernel) (pa_cons (pv 0) (pa_cons (pe_bltn (by rfl) B.bool_ (by decide +kernel) (v := .ty "bool") rfl) pa_nil)))))))), ?_⟩
    walk_at "rd"
    refine isi_int hd.tyd ?_
    walk_at "rd"
    rw [D.isInt_of] at q
    cases hi : d.tg.int?
    · rw [hi] at q
      exact iteF q
    · rw [hi] at q
      refine iteT (isi_bl hd.tyd ?_)
      walk_at "rd"
      exact q
abbrev s_is_integer_within : Stmt := topS 20
theorem sc_is_integer_within : FnScope ["value", "least", "most"] ["value", "least", "most"] (defScope s_is_integer_within) := ⟨rfl, rfl, rfl, by decide +kernel, rfl, by decide +kernel, by decide +kernel⟩
def spIsIn (K : PySem.W.Frag) : Sp := fun vs H Q _ => ∃ v d, ∃ lo hi : Int, vs = [v, .int lo, .int hi] ∧ DT K H v d ∧ Q (.bl (d.isIn lo hi)) H
theorem ok_is_integer_within (c_is_integer : Cal P w K mg base 1 "is_integer" ["value"] (spIsInt K)) (D0 : Df K mg "is_integer_within" s_is_integer_within) :
    Cal P w K mg base 2 "is_integer_within" ["value", "least", "most"] (spIsIn K) := by
  refine D0.cal sc_is_integer_within (fun _ _ _ _ _ _ us hl => match us, hl with | [_, _, _], _ => rfl) (fun vs H Q E h => ?_) (fun f cdv A outer s H vs Q E hr h => ?_)
  · obtain ⟨v, d, lo, hi, rfl, _⟩ := h
    rfl
  · obtain ⟨v, d, lo, up, rfl, hd, q⟩ := h
    refine ⟨_, (pss_one (ps_ret (pe_and (pe_cal c_is_integer hr (by decide) rfl (pa_cons (pv 0) pa_nil)) (pe_one (pe_chain op_le op_le (pv 1) (pv 0) (pv 2)))))), ?_⟩
    walk_at "rd"
    refine ⟨v, d, rfl, hd, ?_⟩
    walk_at "rd"
    cases hi : d.isInt
    · rw [D.isIn_no hi] at q
      exact iteF q
    · obtain ⟨i, rfl⟩ := D.isInt_some hi
      cases hd
      walk_at "rd"
      by_cases h1 : lo ≤ i
      · rw [decide_eq_true h1]
        walk_at "rd"
        have e : D.isIn (.int i) lo up = decide (i ≤ up) := by simp [D.isIn, h1]
        rw [← e]
        exact q
      · rw [decide_eq_false h1]
        walk_at "rd"
        have e : D.isIn (.int i) lo up = false := by simp [D.isIn, h1]
        rw [← e]
        exact q
/-! ### is_name -/
abbrev s_is_name : Stmt := topS 22
theorem sc_is_name : FnScope ["value", "sign"] ["value"] (defScope s_is_name) := ⟨rfl, rfl, rfl, by decide +kernel, rfl, by decide +kernel, by decide +kernel⟩
def spName (K : PySem.W.Frag) : Sp := fun vs H Q _ => ∃ v d, vs = [v] ∧ DT K H v d ∧ d.fits ∧ ∀ H', Ex H H' → Q (.bl d.isName) H'
theorem ok_is_name (B : Bl mg) (k_LONGEST_NAME : ∃ t, mg "_LONGEST_NAME" = some (.int 8 t)) (k_LETTERS : ∃ t, mg "_LETTERS" = some (.str "abcdefghijklmnopqrstuvwxyz" t))
    (k_LETTERS_AND_DIGITS : ∃ t, mg "_LETTERS_AND_DIGITS" = some (.str "abcdefghijklmnopqrstuvwxyz0123456789" t)) (D0 : Df K mg "is_name" s_is_name) : Cal P w K mg base 1 "is_name" ["value"] (spName K) := by
  refine D0.cal sc_is_name (fun _ _ _ _ _ _ us hl => match us, hl with | [_], _ => rfl) (fun vs H Q E h => ?_) (fun f cdv A outer s H vs Q E hr h => ?_)
  · obtain ⟨v, d, rfl, _⟩ := h
    rfl
  · obtain ⟨v, d, rfl, hd, hz, q⟩ := h
    refine ⟨_, (pss_cons (ps_if (PW.pt (pw_or (pt_not (pt_val (pe_callB (r := rIsi K) call_isi (by rfl) B.isinstance_ (by decide +kernel) (pa_cons (pv 0) (pa_cons (pe_bltn (by rfl) B.str_ (by decide +kernel) (v := .ty "str") rfl) pa_nil))))) (pw_or1 (pt_not (pt_chain op_le op_le pe_int (pe_callB call_len_str (by rfl) B.len_ PySem.boot_len (pa_cons (pv 0) pa_nil)) (pe_gi rfl k_LONGEST_NAME)))))) (pss_one (ps_ret pe_bl)) pss_nil)
      (pss_one (ps_ret (pe_and (pe_cmpR op_in_sign (pe_ix ix_str (pv 0) pe_int (fun _ _ => rfl)) (pe_gs rfl k_LETTERS) (by rfl)) (pe_one (pe_callB (r := rAll K) (cr_all rfl) (by rfl) B.all_ (by decide +kernel) (pa_cons (pe_lc (own := [("sign", 1)]) (g := gName 1) rfl sc_is_name.nd (pi_str (pv 0)) (blkOk_by (N := ["value", "sign"]) (sc := defScope s_is_name) (by decide +kernel)) (fun _ _ _ _ _ => (pg_name (i := 1) sc_is_name.nd rfl (.inl rfl))) (fun _ _ _ _ _ => pts_nil) (fun _ _ _ _ _ => (pe_cmpR op_in_sign (pv 1) (pe_gs rfl k_LETTERS_AND_DIGITS) (by rfl)))) pa_nil))))))), ?_⟩
    walk_at "rd"
    refine isi_str hd.tyd ?_
    walk_at "rd"
    cases hi : decide (d.tg = .str)
    · walk_at "rd"
      have e : d.isName = false := by
        cases d <;> first | rfl | cases hi
      rw [e] at q
      exact q H .refl
    · obtain ⟨z, rfl⟩ : ∃ z, d = .str z := by
        cases d <;> first | exact ⟨_, rfl⟩ | cases hi
      cases hd
      walk_at "rd"
      refine ⟨small hz, ?_⟩
      have ez : z.cps.toList.length = z.length := Array.length_toList
      cases hc : z.cps.toList with
      | nil =>
        have e0 : z.length = 0 := by rw [← ez, hc]; rfl
        have e : (D.str z).isName = false := by simp [D.isName, nameOk, e0]
        rw [e] at q
        rw [e0]
        exact iteF (q H .refl)
      | cons c r =>
        have e0 : z.length = r.length + 1 := by rw [← ez, hc]; rfl
        have en := nameOk_iff hc
        rw [decide_eq_true (show (1 : Int) ≤ (z.length : Int) by omega)]
        walk_at "rd"
        by_cases h8 : z.length ≤ 8
        · rw [decide_eq_true (show (z.length : Int) ≤ 8 by omega)]
          walk_at "rd"
          refine ⟨z, 0, c, rfl, rfl, small hz, by rw [hc]; exact atI_nat (j := 0) rfl, ?_⟩
          refine ⟨c, rfl, ?_⟩
          rw [in_letters]
          cases hl : lower c
          · have e : (D.str z).isName = false := by rw [D.isName, en, hl]; simp
            rw [e] at q
            exact iteF (q H .refl)
          · refine iteT ?_
            refine lc_str rfl (by omega) (fun c => .bl (lowdig c)) ?_ ?_
            · intro c' H' Q' _ e q'
              walk_at "rd"
              refine ⟨c', rfl, ?_⟩
              rw [in_lettersdigits]
              exact q' H' .refl
            · intro D1 H' hD e h1
              refine ⟨D1, z.cps.toList.map lowdig, rfl, sqL (by rw [List.map_map]; exact h1), ?_⟩
              have e2 : (D.str z).isName = (z.cps.toList.map lowdig).all id := by
                rw [D.isName, en, hl, decide_eq_true h8, List.all_map]
                rfl
              rw [← e2]
              exact q H' e
        · rw [decide_eq_false (show ¬ (z.length : Int) ≤ 8 by omega)]
          walk_at "rd"
          have e : (D.str z).isName = false := by rw [D.isName, en, decide_eq_false h8]; simp
          rw [e] at q
          exact q H .refl
end
end K11

namespace K11
open PySem PySem.Spec PyProof.Rows L2 Z
local macro_rules | `(tactic| walk_at "rd") => `(tactic| try simp only [cxOf, tSeq, tIfS, tRet, tRetN, tAsg, tDrop, tNext, tBreak, tCont, tNever, tPar, tPar3, tAug, gName, gTup, gCons, gNil, gSub, tVar, tC, tOp, tUn, tCB, tBM, tBM0, tCons, tNil, tTest, tB, tAnd, tOr, tNot, tAndV, tOrV, tNotV, tIf, tChain,
  tTup, tLst, tCall, tMeth, tSl, tPart, tNoPart, tM1, tFmt, tJs_nil, tJs_cons, tCKw, rI0, rI, rU, rEq, rNe, scal_ii, scal_ss, scal_bb, ipI, iStr, iTup, iList, iRng1, sFld, tFld, L2.start, List.getElem?_cons_zero, List.getElem?_cons_succ, List.set_cons_zero, List.set_cons_succ, Option.some.injEq, V.int.injEq, V.bl.injEq, V.str.injEq, V.ref.injEq,
  List.cons.injEq, exists_and_left, exists_eq_left', exists_eq_left, exists_eq_right, exists_eq_right', exists_eq', exists_eq, and_true, true_and, and_self, List.map_cons, List.map_nil, List.length_cons, List.length_nil, List.replicate_succ, List.replicate_zero, List.cons_append, List.nil_append, List.append_nil,
  Nat.add_sub_cancel, Nat.reduceAdd, Nat.reduceSub, if_true, if_false, ite_true, ite_false, Bool.not_true, Bool.not_false, Bool.true_eq_false, Bool.false_eq_true, reduceIte, reduceCtorEq, false_and, exists_false, or_false, false_or, decide_true, decide_false, wipe])

section
variable {P : Program} {w : World} {K : PySem.W.Frag} {mg : Str → Option Value} {base : Heap}
abbrev s_is_number : Stmt := topS 18
theorem sc_is_number : FnScope ["value"] ["value"] (defScope s_is_number) := ⟨rfl, rfl, rfl, by decide +kernel, rfl, by decide +kernel, by decide +kernel⟩
def spIsNum (K : PySem.W.Frag) : Sp := fun vs H Q _ => ∃ v d, vs = [v] ∧ DT K H v d ∧ Q (.bl d.isNum) H
theorem ok_is_number (c_is_integer : Cal P w K mg base 1 "is_integer" ["value"] (spIsInt K)) (D0 : Df K mg "is_number" s_is_number) : Cal P w K mg base 2 "is_number" ["value"] (spIsNum K) := by
  refine D0.cal sc_is_number (fun _ _ _ _ _ _ us hl => match us, hl with | [_], _ => rfl) (fun vs H Q E h => ?_) (fun f cdv A outer s H vs Q E hr h => ?_)
  · obtain ⟨v, d, rfl, _⟩ := h
    rfl
  · obtain ⟨v, d, rfl, hd, q⟩ := h
    refine ⟨_, (pss_one (ps_ret (pe_and (pe_cal c_is_integer hr (by decide) rfl (pa_cons (pv 0) pa_nil)) (pe_one (pe_cmpR op_ge (pv 0) pe_int (nomark _)))))), ?_⟩
    walk_at "rd"
    refine ⟨v, d, rfl, hd, ?_⟩
    walk_at "rd"
    cases hi : d.isInt
    · rw [D.isNum_no hi] at q
      exact iteF q
    · obtain ⟨i, rfl⟩ := D.isInt_some hi
      cases hd
      walk_at "rd"
      exact q
end
end K11

namespace K11
open PySem PySem.Spec PyProof.Rows L2 Z
local macro_rules | `(tactic| walk_at "rd") => `(tactic| try simp only [cxOf, tSeq, tIfS, tRet, tRetN, tAsg, tDrop, tNext, tBreak, tCont, tNever, tPar, tPar3, tAug, gName, gTup, gCons, gNil, gSub, tVar, tC, tOp, tUn, tCB, tBM, tBM0, tCons, tNil, tTest, tB, tAnd, tOr, tNot, tAndV, tOrV, tNotV, tIf, tChain,
  tTup, tLst, tCall, tMeth, tSl, tPart, tNoPart, tM1, tFmt, tJs_nil, tJs_cons, tCKw, rI0, rI, rU, rEq, rNe, scal_ii, scal_ss, scal_bb, ipI, iStr, iTup, iList, iRng1, sFld, tFld, L2.start, List.getElem?_cons_zero, List.getElem?_cons_succ, List.set_cons_zero, List.set_cons_succ, Option.some.injEq, V.int.injEq, V.bl.injEq, V.str.injEq, V.ref.injEq,
  List.cons.injEq, exists_and_left, exists_eq_left', exists_eq_left, exists_eq_right, exists_eq_right', exists_eq', exists_eq, and_true, true_and, and_self, List.map_cons, List.map_nil, List.length_cons, List.length_nil, List.replicate_succ, List.replicate_zero, List.cons_append, List.nil_append, List.append_nil,
  Nat.add_sub_cancel, Nat.reduceAdd, Nat.reduceSub, if_true, if_false, ite_true, ite_false, Bool.not_true, Bool.not_false, Bool.true_eq_false, Bool.false_eq_true, reduceIte, reduceCtorEq, false_and, exists_false, or_false, false_or, decide_true, decide_false, wipe])

def D.areWorths (d : D) (n : Int) : Bool := match d with
  | .tup l => decide ((l.length : Int) = n) && l.all (fun d => d.isIn 0 6)
  | _ => false
def D.short (d : D) : Prop := match d with
  | .tup l => l.length ≤ 1000
  | .str s => s.length ≤ 90000
  | _ => True
theorem D.short.fits {d : D} (h : D.short d) : d.fits := by
  cases d <;> first | exact trivial | exact Nat.le_trans h (by decide)
def D.isKind (d : D) (n : Int) : Bool := match d with
  | .tup [a, b, c] => a.isName && (b.isIn 1 3 && D.areWorths c n)
  | _ => false
/-- the parts of a triple are short -/
def D.short3 (d : D) : Prop := match d with
  | .tup [a, b, c] => D.short a ∧ D.short b ∧ D.short c
  | _ => True
theorem D.tup_of {d : D} (h : decide (d.tg = .tup) = true) : ∃ l, d = .tup l := by
  cases d <;> first | exact ⟨_, rfl⟩ | cases h
theorem D.isKind_not {l : List D} {n : Int} (h : l.length ≠ 3) : D.isKind (.tup l) n = false := by
  cases l with
  | nil => rfl
  | cons a l =>
    cases l with
    | nil => rfl
    | cons b l =>
      cases l with
      | nil => rfl
      | cons c l =>
        cases l with
        | nil => exact absurd rfl h
        | cons d l => rfl
section
variable {P : Program} {w : World} {K : PySem.W.Frag} {mg : Str → Option Value} {base : Heap}
abbrev s_is_tuple_of : Stmt := topS 21
theorem sc_is_tuple_of : FnScope ["value", "many"] ["value", "many"] (defScope s_is_tuple_of) := ⟨rfl, rfl, rfl, by decide +kernel, rfl, by decide +kernel, by decide +kernel⟩
def D.isTupN (d : D) (n : Int) : Bool := match d with
  | .tup l => decide ((l.length : Int) = n)
  | _ => false
def spTupOf (K : PySem.W.Frag) : Sp := fun vs H Q _ => ∃ v d, ∃ n : Int, vs = [v, .int n] ∧ DT K H v d ∧ Q (.bl (D.isTupN d n)) H
theorem ok_is_tuple_of (B : Bl mg) (D0 : Df K mg "is_tuple_of" s_is_tuple_of) : Cal P w K mg base 1 "is_tuple_of" ["value", "many"] (spTupOf K) := by
  refine D0.cal sc_is_tuple_of (fun _ _ _ _ _ _ us hl => match us, hl with | [_, _], _ => rfl) (fun vs H Q E h => ?_) (fun f cdv A outer s H vs Q E hr h => ?_)
  · obtain ⟨v, d, n, rfl, _⟩ := h
    rfl
  · obtain ⟨v, d, n, rfl, hd, q⟩ := h
    refine ⟨_, (pss_one (ps_ret (pe_and (pe_callB (r := rIsi K) call_isi (by rfl) B.isinstance_ (by decide +kernel) (pa_cons (pv 0) (pa_cons (pe_bltn (by rfl) B.tuple_ (by decide +kernel) (v := .ty "tuple") rfl) pa_nil))) (pe_one (pe_cmpR op_eq (pe_callB (r := rLenQ K) call_len_seq (by rfl) B.len_ PySem.boot_len (pa_cons (pv 0) pa_nil)) (pv 1) (nomark _)))))), ?_⟩
    walk_at "rd"
    refine isi_tup hd.tyd ?_
    cases hi : decide (d.tg = .tup)
    · have e : D.isTupN d n = false := by
        cases d <;> first | rfl | cases hi
      rw [e] at q
      exact ⟨false, rfl, iteF q⟩
    · obtain ⟨l, rfl⟩ := D.tup_of hi
      cases hd with
      | tup hS hs =>
        rename_i a xs
        have hl := hs.len
        refine ⟨true, rfl, iteT ⟨a, xs, rfl, .inr hS, rfl, ?_⟩⟩
        have e : D.isTupN (.tup l) n = decide ((xs.length : Int) = n) := by rw [hl]; rfl
        rw [e] at q
        have e2 : decide (V.int (xs.length : Int) = V.int n) = decide ((xs.length : Int) = n) := by
          by_cases z : (xs.length : Int) = n
          · rw [decide_eq_true z, decide_eq_true (congrArg V.int z)]
          · rw [decide_eq_false z, decide_eq_false (fun y => z (V.int.inj y))]
        rw [e2]
        exact q
abbrev s_are_worths : Stmt := topS 28
theorem sc_are_worths : FnScope ["value", "many", "worth"] ["value", "many"] (defScope s_are_worths) := ⟨rfl, rfl, rfl, by decide +kernel, rfl, by decide +kernel, by decide +kernel⟩
def spWorths (K : PySem.W.Frag) : Sp := fun vs H Q _ => ∃ v d, ∃ n : Int, vs = [v, .int n] ∧ DT K H v d ∧ D.short d ∧ ∀ H', Ex H H' → Q (.bl (D.areWorths d n)) H'
theorem ok_are_worths (B : Bl mg) (k_MOST_WORTH : ∃ t, mg "MOST_WORTH" = some (.int 6 t)) (c_is_integer_within : Cal P w K mg base 2 "is_integer_within" ["value", "least", "most"] (spIsIn K)) (c_is_tuple_of : Cal P w K mg base 1 "is_tuple_of" ["value", "many"] (spTupOf K)) (D0 : Df K mg "are_worths" s_are_worths) :
    Cal P w K mg base 3 "are_worths" ["value", "many"] (spWorths K) := by
  refine D0.cal sc_are_worths (fun _ _ _ _ _ _ us hl => match us, hl with | [_, _], _ => rfl) (fun vs H Q E h => ?_) (fun f cdv A outer s H vs Q E hr h => ?_)
  · obtain ⟨v, d, n, rfl, _⟩ := h
    rfl
  · obtain ⟨v, d, n, rfl, hd, hz, q⟩ := h
    refine ⟨_, (pss_one (ps_ret (pe_and (pe_cal c_is_tuple_of hr (by decide) rfl (pa_cons (pv 0) (pa_cons (pv 1) pa_nil))) (pe_one (pe_callB (r := rAll K) (cr_all rfl) (by rfl) B.all_ (by decide +kernel) (pa_cons (pe_lc (own := [("worth", 2)]) (g := gName 2) rfl sc_are_worths.nd (pi_tup (pv 0)) (blkOk_by (N := ["value", "many", "worth"]) (sc := defScope s_are_worths) (by decide +kernel)) (fun _ _ _ _ _ => (pg_name (i := 2) sc_are_worths.nd rfl (.inl rfl))) (fun _ _ _ _ _ => pts_nil) (fun _ _ _ _ _ => (pe_cal c_is_integer_within hr (by decide) rfl (pa_cons (pv 2) (pa_cons pe_int (pa_cons (pe_gi rfl k_MOST_WORTH) pa_nil)))))) pa_nil)))))), ?_⟩
    walk_at "rd"
    refine ⟨v, d, n, rfl, hd, ?_⟩
    cases hi : D.isTupN d n
    · have e : D.areWorths d n = false := by
        cases d <;> first | rfl | (show (decide _ && _) = false; rw [show decide (_ = n) = false from hi]; rfl)
      rw [e] at q
      exact ⟨false, rfl, iteF (q H .refl)⟩
    · obtain ⟨l, rfl⟩ : ∃ l, d = .tup l := by
        cases d <;> first | exact ⟨_, rfl⟩ | cases hi
      refine ⟨true, rfl, iteT ?_⟩
      cases hd with
      | tup hS hs =>
        rename_i a xs
        have hl := hs.len
        have hn : (l.length : Int) = n := of_decide_eq_true hi
        refine lcTf (a := a) (xs := xs) (fun R h => ⟨_, rfl, h⟩) hS (by have : l.length ≤ 1000 := hz; omega) (l.map fun d => .bl (d.isIn 0 6)) (by rw [List.length_map, hl]) ?_ ?_
        · intro i x z H' Q' hx hz' e q'
          obtain ⟨d, h1, h2⟩ := hs.get hx
          rw [List.getElem?_map, h1] at hz'
          cases hz'
          walk_at "rd"
          exact ⟨x, d, 0, 6, rfl, h2.mono e.any, q' H' .refl⟩
        · intro D1 H' hD e h1
          refine ⟨D1, l.map fun d => d.isIn 0 6, rfl, sqL (by rw [List.map_map]; exact h1), ?_⟩
          have e2 : D.areWorths (.tup l) n = (l.map fun d => d.isIn 0 6).all id := by
            rw [D.areWorths, List.all_map, decide_eq_true hn]
            rfl
          rw [← e2]
          exact q H' e
abbrev s_is_kind : Stmt := topS 32
theorem sc_is_kind : FnScope ["value", "worths_wanted", "name", "count", "worths"] ["value", "worths_wanted"] (defScope s_is_kind) := ⟨rfl, rfl, rfl, by decide +kernel, rfl, by decide +kernel, by decide +kernel⟩
def spKind (K : PySem.W.Frag) : Sp := fun vs H Q _ => ∃ v d, ∃ n : Int, vs = [v, .int n] ∧ DT K H v d ∧ D.short3 d ∧ ∀ H', Ex H H' → Q (.bl (D.isKind d n)) H'
theorem ok_is_kind (B : Bl mg) (k_MOST_COUNT : ∃ t, mg "MOST_COUNT" = some (.int 3 t)) (c_is_name : Cal P w K mg base 1 "is_name" ["value"] (spName K))
    (c_is_integer_within : Cal P w K mg base 2 "is_integer_within" ["value", "least", "most"] (spIsIn K)) (c_is_tuple_of : Cal P w K mg base 1 "is_tuple_of" ["value", "many"] (spTupOf K)) (c_are_worths : Cal P w K mg base 3 "are_worths" ["value", "many"] (spWorths K)) (D0 : Df K mg "_is_kind" s_is_kind) :
    Cal P w K mg base 4 "_is_kind" ["value", "worths_wanted"] (spKind K) := by
  refine D0.cal sc_is_kind (fun _ _ _ _ _ _ us hl => match us, hl with | [_, _], _ => rfl) (fun vs H Q E h => ?_) (fun f cdv A outer s H vs Q E hr h => ?_)
  · obtain ⟨v, d, n, rfl, _⟩ := h
    rfl
  · obtain ⟨v, d, n, rfl, hd, hz, q⟩ := h
    refine ⟨_, (pss_cons (ps_if (pt_not (pt_val (pe_cal c_is_tuple_of hr (by decide) rfl (pa_cons (pv 0) (pa_cons pe_int pa_nil))))) (pss_one (ps_ret pe_bl)) pss_nil)
      (pss_cons (ps_asg (pv 0) (pg_tup rfl (pgs_cons (pg_name (i := 2) sc_is_kind.nd rfl (.inl rfl)) (pgs_cons (pg_name (i := 3) sc_is_kind.nd rfl (.inl rfl)) (pgs_cons (pg_name (i := 4) sc_is_kind.nd rfl (.inl rfl)) pgs_nil)))))
      (pss_one (ps_ret (pe_and (pe_cal c_is_name hr (by decide) rfl (pa_cons (pv 2) pa_nil)) (pe_and (pe_cal c_is_integer_within hr (by decide) rfl (pa_cons (pv 3) (pa_cons pe_int (pa_cons (pe_gi rfl k_MOST_COUNT) pa_nil)))) (pe_one (pe_cal c_are_worths hr (by decide) rfl (pa_cons (pv 4) (pa_cons (pv 1) pa_nil)))))))))), ?_⟩
    walk_at "rd"
    refine ⟨v, d, 3, rfl, hd, ?_⟩
    cases hi : D.isTupN d 3
    · have e : D.isKind d n = false := by
        cases d with
        | tup l => exact D.isKind_not (fun z => by rw [show D.isTupN (.tup l) 3 = decide ((l.length : Int) = 3) from rfl, z] at hi; cases hi)
        | _ => rfl
      rw [e] at q
      exact ⟨false, rfl, iteT (q H .refl)⟩
    · obtain ⟨l, rfl⟩ : ∃ l, d = .tup l := by
        cases d <;> first | exact ⟨_, rfl⟩ | cases hi
      refine ⟨true, rfl, iteF ?_⟩
      cases hd with
      | tup hS hs =>
        rename_i a xs
        have hl := hs.len
        have hn3 : xs.length = 3 := by
          have : (l.length : Int) = 3 := of_decide_eq_true hi
          omega
        walk_at "rd"
        obtain ⟨x1, x2, x3, d1, d2, d3, rfl, rfl, h1, h2, h3⟩ := hs.three hn3
        · obtain ⟨z1, z2, z3⟩ := hz
          refine ⟨[x1, x2, x3], hS, rfl, x1, _, rfl, x2, _, rfl, x3, _, rfl, rfl, ?_⟩
          refine ⟨x1, d1, rfl, h1, z1.fits, fun H1 e1 => ?_⟩
          refine ⟨_, rfl, ?_⟩
          have eq : D.isKind (.tup [d1, d2, d3]) n = (d1.isName && (d2.isIn 1 3 && D.areWorths d3 n)) := rfl
          rw [eq] at q
          cases e4 : d1.isName
          · rw [e4] at q
            exact iteF (q H1 e1)
          · refine iteT ⟨x2, d2, 1, 3, rfl, h2.mono e1.any, ?_⟩
            refine ⟨_, rfl, ?_⟩
            cases e5 : d2.isIn 1 3
            · rw [e4, e5] at q
              exact iteF (q H1 e1)
            · rw [e4, e5] at q
              exact iteT ⟨x3, d3, n, rfl, h3.mono e1.any, z3, fun H2 e2 => q H2 (e1.trans e2)⟩
/-! ### names of rows -/
abbrev s_names : Stmt := topS 36
theorem sc_names : FnScope ["rows", "row"] ["rows"] (defScope s_names) := ⟨rfl, rfl, rfl, by decide +kernel, rfl, by decide +kernel, by decide +kernel⟩
def IsRow (K : PySem.W.Frag) (H : Hp) (v : V) (s : Str) : Prop := ∃ a r, v = .ref a ∧ SqT K H a (.str s :: r)
theorem IsRow.mono {H H' : Hp} {v : V} {s : Str} (h : IsRow K H v s) (e : Gr any H H') : IsRow K H' v s := by
  obtain ⟨a, r, rfl, h⟩ := h
  exact ⟨a, r, rfl, e.seqT h⟩
def spNames (K : PySem.W.Frag) : Sp := fun vs H Q _ => ∃ a xs, ∃ ss : List Str, vs = [.ref a] ∧ SqT K H a xs ∧ xs.length = ss.length ∧ ss.length ≤ 1000 ∧ (∀ (i : Nat) x s, xs[i]? = some x → ss[i]? = some s → IsRow K H x s) ∧
  ∀ l H', H l = none → Ex H H' → H' l = some (.lst (ss.map V.str)) → Q (.ref l) H'
theorem ok_names (D0 : Df K mg "_names" s_names) : Cal P w K mg base 1 "_names" ["rows"] (spNames K) := by
  refine D0.cal sc_names (fun _ _ _ _ _ _ us hl => match us, hl with | [_], _ => rfl) (fun vs H Q E h => ?_) (fun f cdv A outer s H vs Q E hr h => ?_)
  · obtain ⟨a, xs, ss, rfl, _⟩ := h
    rfl
  · obtain ⟨a, xs, ss, rfl, hS, hl, hz, hs, q⟩ := h
    refine ⟨_, (pss_one (ps_ret (pe_lc (own := [("row", 1)]) (g := gName 1) rfl sc_names.nd (pi_tup (pv 0)) (blkOk_by (N := ["rows", "row"]) (sc := defScope s_names) (by decide +kernel)) (fun _ _ _ _ _ => (pg_name (i := 1) sc_names.nd rfl (.inl rfl))) (fun _ _ _ _ _ => pts_nil) (fun _ _ _ _ _ => (pe_ix (r := rIxT K) ix_tup (pv 1) pe_int (fun _ _ => rfl)))))), ?_⟩
    walk_at "rd"
    refine lcTf (fun R h => ⟨_, rfl, h⟩) hS (by omega) (ss.map V.str) (by rw [List.length_map, hl]) ?_ ?_
    · intro i x z H' Q' hx hz' e q'
      rw [List.getElem?_map] at hz'
      cases e1 : ss[i]? with
      | none =>
        rw [e1] at hz'
        cases hz'
      | some s =>
        rw [e1] at hz'
        cases hz'
        obtain ⟨b, r, rfl, hb⟩ := (hs i x s hx e1).mono e.any
        walk_at "rd"
        exact ⟨b, _, 0, _, rfl, rfl, hb, atI_nat (j := 0) rfl, q' H' .refl⟩
    · intro D1 H' hD e h1
      exact q D1 H' hD e h1
abbrev s_most_people : Stmt := topS 35
theorem sc_most_people : FnScope ["measures_told"] ["measures_told"] (defScope s_most_people) := ⟨rfl, rfl, rfl, by decide +kernel, rfl, by decide +kernel, by decide +kernel⟩
def spMost : Sp := fun vs H Q _ => ∃ n : Int, vs = [.int n] ∧ Q (.int (if n = 1 then 3 else 2)) H
theorem ok_most_people (k_MOST_PEOPLE : ∃ t, mg "MOST_PEOPLE" = some (.int 3 t)) (D0 : Df K mg "_most_people" s_most_people) : Cal P w K mg base 1 "_most_people" ["measures_told"] spMost := by
  refine D0.cal sc_most_people (fun _ _ _ _ _ _ us hl => match us, hl with | [_], _ => rfl) (fun vs H Q E h => ?_) (fun f cdv A outer s H vs Q E hr h => ?_)
  · obtain ⟨n, rfl, _⟩ := h
    rfl
  · obtain ⟨n, rfl, q⟩ := h
    refine ⟨_, (pss_cons (ps_if (pt_cmpR op_eq (pv 0) pe_int (nomark _)) (pss_one (ps_ret (pe_gi rfl k_MOST_PEOPLE))) pss_nil)
      (pss_one (ps_ret (pe_op op_sub (pe_gi rfl k_MOST_PEOPLE) pe_int)))), ?_⟩
    walk_at "rd"
    by_cases h1 : n = 1
    · rw [if_pos h1] at q
      rw [decide_eq_true h1]
      exact iteT q
    · rw [if_neg h1] at q
      rw [decide_eq_false h1]
      exact iteF q
/-! ### refused kinds, people -/
/-- the texts of a tuple of texts -/
def D.strs (l : List D) : List Str := l.filterMap fun d => match d with
  | .str s => some s
  | _ => none
def D.areRefused (d : D) (ns : List Str) : Bool := match d with
  | .tup l => l.all D.isName && decide (D.strs l = ns.filter fun n => decide (n ∈ D.strs l))
  | _ => false
def D.shorts (d : D) : Prop := match d with
  | .tup l => l.length ≤ 1000 ∧ ∀ d ∈ l, D.short d
  | .str s => s.length ≤ 90000
  | _ => True
theorem strs_all {l : List D} (h : l.all D.isName = true) : l = (D.strs l).map D.str ∧ ∀ s ∈ D.strs l, nameOk s = true := by
  induction l with
  | nil => exact ⟨rfl, fun s hs => by cases hs⟩
  | cons d l ih =>
    rw [List.all_cons, Bool.and_eq_true] at h
    obtain ⟨h1, h2⟩ := h
    obtain ⟨e1, e2⟩ := ih h2
    cases d with
    | str s =>
      have e : D.strs (.str s :: l) = s :: D.strs l := rfl
      rw [e]
      refine ⟨by rw [List.map_cons, ← e1], fun t ht => ?_⟩
      rcases List.mem_cons.mp ht with rfl | ht
      · exact h1
      · exact e2 t ht
    | _ => cases h1
abbrev s_are_refused : Stmt := topS 34
theorem sc_are_refused : FnScope ["value", "kind_names", "name", "word"] ["value", "kind_names"] (defScope s_are_refused) := ⟨rfl, rfl, rfl, by decide +kernel, rfl, by decide +kernel, by decide +kernel⟩
def spRefused (K : PySem.W.Frag) : Sp := fun vs H Q _ => ∃ v d l, ∃ ns : List Str, vs = [v, .ref l] ∧ DT K H v d ∧ D.shorts d ∧ H l = some (.lst (ns.map V.str)) ∧ ns.length ≤ 1000 ∧ ∀ H', Ex H H' → Q (.bl (D.areRefused d ns)) H'
theorem ok_are_refused (B : Bl mg) (c_is_name : Cal P w K mg base 1 "is_name" ["value"] (spName K)) (D0 : Df K mg "_are_refused" s_are_refused) : Cal P w K mg base 2 "_are_refused" ["value", "kind_names"] (spRefused K) := by
  refine D0.cal sc_are_refused (fun _ _ _ _ _ _ us hl => match us, hl with | [_, _], _ => rfl) (fun vs H Q E h => ?_) (fun f cdv A outer s H vs Q E hr h => ?_)
  · obtain ⟨v, d, l, ns, rfl, _⟩ := h
    rfl
  · obtain ⟨v, d, l, ns, rfl, hd, hz, hn, hnl, q⟩ := h
    refine ⟨_, (pss_cons (ps_if (PW.pt (pw_or (pt_not (pt_val (pe_callB (r := rIsi K) call_isi (by rfl) B.isinstance_ (by decide +kernel) (pa_cons (pv 0) (pa_cons (pe_bltn (by rfl) B.tuple_ (by decide +kernel) (v := .ty "tuple") rfl) pa_nil))))) (pw_or1 (pt_not (pt_val (pe_callB (r := rAll K) (cr_all rfl) (by rfl) B.all_ (by decide +kernel) (pa_cons (pe_lc (own := [("word", 3)]) (g := gName 3) rfl sc_are_refused.nd (pi_tup (pv 0)) (blkOk_by (N := ["value", "kind_names", "name", "word"]) (sc := defScope s_are_refused) (by decide +kernel)) (fun _ _ _ _ _ => (pg_name (i := 3) sc_are_refused.nd rfl (.inl rfl))) (fun _ _ _ _ _ => pts_nil) (fun _ _ _ _ _ => (pe_cal c_is_name hr (by decide) rfl (pa_cons (pv 3) pa_nil)))) pa_nil))))))) (pss_one (ps_ret pe_bl)) pss_nil)
      (pss_one (ps_ret (pe_cmpR (r := rEqD K) (op_eqD hr.units) (pv 0) (pe_callTy (r := rTupOf K) call_tuple_of (by rfl) B.tuple_ (by decide +kernel) (pa_cons (pe_lc (own := [("name", 2)]) (g := gName 2) rfl sc_are_refused.nd (pi_list (pv 1)) (blkOk_by (N := ["value", "kind_names", "name", "word"]) (sc := defScope s_are_refused) (by decide +kernel)) (fun _ _ _ _ _ => (pg_name (i := 2) sc_are_refused.nd rfl (.inl rfl))) (fun _ _ _ _ _ => pts_one (pt_cmpR (r := rIn K false) op_in_seq (pv 2) (pv 0) (by rfl))) (fun _ _ _ _ _ => (pv 2))) pa_nil)) (nomark _))))), ?_⟩
    walk_at "rd"
    refine isi_tup hd.tyd ?_
    walk_at "rd"
    cases hi : decide (d.tg = .tup)
    · walk_at "rd"
      have e : D.areRefused d ns = false := by
        cases d <;> first | rfl | cases hi
      rw [e] at q
      exact q H .refl
    · obtain ⟨ds, rfl⟩ := D.tup_of hi
      cases hd with
      | tup hS hs =>
        rename_i a xs
        walk_at "rd"
        have hl := hs.len
        have hl2 : ds.length ≤ 1000 := hz.1
        refine lcTf (fun R h => ⟨_, rfl, h⟩) hS (by omega) (ds.map fun d => .bl d.isName) (by rw [List.length_map, hl]) ?_ ?_
        · intro i x z H' Q' hx hz' e q'
          obtain ⟨d, h1, h2⟩ := hs.get hx
          rw [List.getElem?_map, h1] at hz'
          cases hz'
          walk_at "rd"
          refine ⟨x, d, rfl, h2.mono e.any, (hz.2 d (List.mem_of_getElem? h1)).fits, fun H3 e3 => q' H3 e3⟩
        · intro D1 H1 hD e1 h1
          refine ⟨D1, ds.map D.isName, rfl, sqL (by rw [List.map_map]; exact h1), ?_⟩
          refine ⟨_, rfl, ?_⟩
          have ea : (ds.map D.isName).all id = ds.all D.isName := by rw [List.all_map]; rfl
          rw [ea]
          cases hall : ds.all D.isName
          · have e : D.areRefused (.tup ds) ns = false := by rw [D.areRefused, hall]; rfl
            rw [e] at q
            exact iteT (q H1 e1)
          · refine iteF ?_
            obtain ⟨eds, hok⟩ := strs_all hall
            have exs : xs = (D.strs ds).map V.str := by
              rw [eds] at hs
              exact hs.strs
            subst exs
            refine lcFilt (a := l) (xs := ns.map V.str) (fun R h => ⟨_, rfl, h⟩) (sqL (e1.get hn)) (by rw [List.length_map]; omega) (by show 2 < 4; decide) (fun v => inV v ((D.strs ds).map V.str)) ?_ ?_
            · intro x H' F hx e' q'
              obtain ⟨s', _, rfl⟩ := List.mem_map.mp hx
              walk_at "rd"
              exact ⟨a, _, rfl, .inr ((e1.trans e').seqT hS), rfl, Z.flat_strs _, _, rfl, q' H' .refl⟩
            · intro D2 H2 hD2 e2 h2
              refine ⟨D2, _, rfl, .inl ⟨sqL h2, fun T hT => ?_⟩⟩
              rw [filter_strs]
              have e3 : Ex H1 (upd H2 T (.tup ((ns.filter fun n => inV (.str n) ((D.strs ds).map V.str)).map V.str))) := e2.trans (.new hT)
              refine ⟨.tuple ((D.strs ds).map PyData.str), .tuple ((ns.filter fun n => inV (.str n) ((D.strs ds).map V.str)).map PyData.str), .tup ((e1.trans e3).seqT hS) (dp_strs _), .tup (sqT upd_same) (dp_strs _),
                shaped_strs fun s hs => strOk_of (hok s hs), shaped_strs fun s hs => ?_, ?_⟩
              · have h5 := (List.mem_filter.mp hs).2
                rw [inV_strs] at h5
                exact strOk_of (hok s (of_decide_eq_true h5))
              · have e6 : PyData.eqv (.tuple ((D.strs ds).map PyData.str)) (.tuple ((ns.filter fun n => inV (.str n) ((D.strs ds).map V.str)).map PyData.str)) = D.areRefused (.tup ds) ns := by
                  rw [D.areRefused, hall, Bool.true_and]
                  simp only [PyData.eqv]
                  rw [eqv_strs]
                  have e7 : (fun n => inV (.str n) ((D.strs ds).map V.str)) = fun n => decide (n ∈ D.strs ds) := funext fun n => inV_strs n _
                  rw [e7]
                rw [e6]
                exact q _ (e1.trans e3)
/-! ### a person -/
def D.isPerson (d : D) (ns : List Str) : Bool := match d with
  | .tup [a, b, c] => a.isName && (b.isIn 1 3 && D.areRefused c ns)
  | _ => false
theorem D.isPerson_not {l : List D} {n : List Str} (h : l.length ≠ 3) : D.isPerson (.tup l) n = false := by
  cases l with
  | nil => rfl
  | cons a l =>
    cases l with
    | nil => rfl
    | cons b l =>
      cases l with
      | nil => rfl
      | cons c l =>
        cases l with
        | nil => exact absurd rfl h
        | cons d l => rfl
def D.shortP (d : D) : Prop := match d with
  | .tup [a, b, c] => D.short a ∧ D.short b ∧ D.shorts c
  | _ => True
abbrev s_is_person : Stmt := topS 33
theorem sc_is_person : FnScope ["value", "kind_names", "name", "share", "refused"] ["value", "kind_names"] (defScope s_is_person) := ⟨rfl, rfl, rfl, by decide +kernel, rfl, by decide +kernel, by decide +kernel⟩
def spPerson (K : PySem.W.Frag) : Sp := fun vs H Q _ => ∃ v d l, ∃ ns : List Str, vs = [v, .ref l] ∧ DT K H v d ∧ D.shortP d ∧ H l = some (.lst (ns.map V.str)) ∧ ns.length ≤ 1000 ∧ ∀ H', Ex H H' → Q (.bl (D.isPerson d ns)) H'
theorem ok_is_person (B : Bl mg) (k_MOST_SHARE : ∃ t, mg "MOST_SHARE" = some (.int 3 t)) (c_is_name : Cal P w K mg base 1 "is_name" ["value"] (spName K))
    (c_is_integer_within : Cal P w K mg base 2 "is_integer_within" ["value", "least", "most"] (spIsIn K)) (c_is_tuple_of : Cal P w K mg base 1 "is_tuple_of" ["value", "many"] (spTupOf K)) (c_are_refused : Cal P w K mg base 2 "_are_refused" ["value", "kind_names"] (spRefused K)) (D0 : Df K mg "_is_person" s_is_person) :
    Cal P w K mg base 3 "_is_person" ["value", "kind_names"] (spPerson K) := by
  refine D0.cal sc_is_person (fun _ _ _ _ _ _ us hl => match us, hl with | [_, _], _ => rfl) (fun vs H Q E h => ?_) (fun f cdv A outer s H vs Q E hr h => ?_)
  · obtain ⟨v, d, l, ns, rfl, _⟩ := h
    rfl
  · obtain ⟨v, d, l, ns, rfl, hd, hz, hn, hnl, q⟩ := h
    refine ⟨_, (pss_cons (ps_if (pt_not (pt_val (pe_cal c_is_tuple_of hr (by decide) rfl (pa_cons (pv 0) (pa_cons pe_int pa_nil))))) (pss_one (ps_ret pe_bl)) pss_nil)
      (pss_cons (ps_asg (pv 0) (pg_tup rfl (pgs_cons (pg_name (i := 2) sc_is_person.nd rfl (.inl rfl)) (pgs_cons (pg_name (i := 3) sc_is_person.nd rfl (.inl rfl)) (pgs_cons (pg_name (i := 4) sc_is_person.nd rfl (.inl rfl)) pgs_nil)))))
      (pss_one (ps_ret (pe_and (pe_cal c_is_name hr (by decide) rfl (pa_cons (pv 2) pa_nil)) (pe_and (pe_cal c_is_integer_within hr (by decide) rfl (pa_cons (pv 3) (pa_cons pe_int (pa_cons (pe_gi rfl k_MOST_SHARE) pa_nil)))) (pe_one (pe_cal c_are_refused hr (by decide) rfl (pa_cons (pv 4) (pa_cons (pv 1) pa_nil)))))))))), ?_⟩
    walk_at "rd"
    refine ⟨v, d, 3, rfl, hd, ?_⟩
    cases hi : D.isTupN d 3
    · have e : D.isPerson d ns = false := by
        cases d with
        | tup l => exact D.isPerson_not (fun z => by rw [show D.isTupN (.tup l) 3 = decide ((l.length : Int) = 3) from rfl, z] at hi; cases hi)
        | _ => rfl
      rw [e] at q
      exact ⟨false, rfl, iteT (q H .refl)⟩
    · obtain ⟨l, rfl⟩ : ∃ l, d = .tup l := by
        cases d <;> first | exact ⟨_, rfl⟩ | cases hi
      refine ⟨true, rfl, iteF ?_⟩
      cases hd with
      | tup hS hs =>
        rename_i a xs
        have hl := hs.len
        have hn3 : xs.length = 3 := by
          have : (l.length : Int) = 3 := of_decide_eq_true hi
          omega
        walk_at "rd"
        obtain ⟨x1, x2, x3, d1, d2, d3, rfl, rfl, h1, h2, h3⟩ := hs.three hn3
        obtain ⟨z1, z2, z3⟩ := hz
        refine ⟨[x1, x2, x3], hS, rfl, x1, _, rfl, x2, _, rfl, x3, _, rfl, rfl, ?_⟩
        refine ⟨x1, d1, rfl, h1, z1.fits, fun H1 e1 => ?_⟩
        refine ⟨_, rfl, ?_⟩
        have eq : D.isPerson (.tup [d1, d2, d3]) ns = (d1.isName && (d2.isIn 1 3 && D.areRefused d3 ns)) := rfl
        rw [eq] at q
        cases e4 : d1.isName
        · rw [e4] at q
          exact iteF (q H1 e1)
        · refine iteT ⟨x2, d2, 1, 3, rfl, h2.mono e1.any, ?_⟩
          refine ⟨_, rfl, ?_⟩
          cases e5 : d2.isIn 1 3
          · rw [e4, e5] at q
            exact iteF (q H1 e1)
          · rw [e4, e5] at q
            exact iteT ⟨x3, d3, l, ns, rfl, h3.mono e1.any, z3, e1.get hn, hnl, fun H2 e2 => q H2 (e1.trans e2)⟩
end
end K11

namespace K11
open PySem PySem.Spec PyProof.Rows L2 Z ZE
local macro_rules | `(tactic| walk_at "rd") => `(tactic| try simp only [cxOf, tSeq, tIfS, tRet, tRetN, tAsg, tDrop, tNext, tBreak, tCont, tNever, tPar, tPar3, tAug, gName, gTup, gCons, gNil, gSub, tVar, tC, tOp, tUn, tCB, tBM, tBM0, tCons, tNil, tTest, tB, tAnd, tOr, tNot, tAndV, tOrV, tNotV, tIf, tChain,
  tTup, tLst, tCall, tMeth, tSl, tPart, tNoPart, tM1, tFmt, tJs_nil, tJs_cons, tCKw, rI0, rI, rU, rEq, rNe, scal_ii, scal_ss, scal_bb, ipI, iStr, iTup, iList, iRng1, sFld, tFld, L2.start, List.getElem?_cons_zero, List.getElem?_cons_succ, List.set_cons_zero, List.set_cons_succ, Option.some.injEq, V.int.injEq, V.bl.injEq, V.str.injEq, V.ref.injEq,
  List.cons.injEq, exists_and_left, exists_eq_left', exists_eq_left, exists_eq_right, exists_eq_right', exists_eq', exists_eq, and_true, true_and, and_self, List.map_cons, List.map_nil, List.length_cons, List.length_nil, List.replicate_succ, List.replicate_zero, List.cons_append, List.nil_append, List.append_nil,
  Nat.add_sub_cancel, Nat.reduceAdd, Nat.reduceSub, if_true, if_false, ite_true, ite_false, Bool.not_true, Bool.not_false, Bool.true_eq_false, Bool.false_eq_true, reduceIte, reduceCtorEq, false_and, exists_false, or_false, false_or, decide_true, decide_false, wipe])

section
variable {P : Program} {w : World} {K : PySem.W.Frag} {mg : Str → Option Value} {base : Heap}
abbrev s_check_measures : Stmt := topS 29
theorem sc_check_measures : FnScope ["measures", "at", "name"] ["measures"] (defScope s_check_measures) := ⟨rfl, rfl, rfl, by decide +kernel, rfl, by decide +kernel, by decide +kernel⟩
def spCkM (K : PySem.W.Frag) : Sp := fun vs H Q _ => ∃ a, ∃ ms : List Str, vs = [.ref a] ∧ SqT K H a (ms.map V.str) ∧ (1 ≤ ms.length ∧ ms.length ≤ 2) ∧ (∀ s ∈ ms, nameOk s = true) ∧ ms.Nodup ∧ ∀ H', Ex H H' → Q .non H'
theorem ok_check_measures (B : Bl mg) (k_MOST_MEASURES : ∃ t, mg "_MOST_MEASURES" = some (.int 2 t)) (c_is_name : Cal P w K mg base 1 "is_name" ["value"] (spName K)) (D0 : Df K mg "_check_measures" s_check_measures) :
    Cal P w K mg base 3 "_check_measures" ["measures"] (spCkM K) := by
  refine D0.cal sc_check_measures (fun _ _ _ _ _ _ us hl => match us, hl with | [_], _ => rfl) (fun vs H Q E h => ?_) (fun f cdv A outer s H vs Q E hr h => ?_)
  · obtain ⟨a, ms, rfl, _⟩ := h
    rfl
  · obtain ⟨a, ms, rfl, hS, hl, hn, hd, q⟩ := h
    refine ⟨_, (pss_cons (ps_if (PW.pt (pw_or (pt_not (pt_val (pe_callB (r := rIsi K) call_isi (by rfl) B.isinstance_ (by decide +kernel) (pa_cons (pv 0) (pa_cons (pe_bltn (by rfl) B.tuple_ (by decide +kernel) (v := .ty "tuple") rfl) pa_nil))))) (pw_or1 (pt_cmpR op_eq (pe_callB (r := rLenQ K) call_len_seq (by rfl) B.len_ PySem.boot_len (pa_cons (pv 0) pa_nil)) pe_int (nomark _))))) (pss_one ps_never) pss_nil)
      (pss_one (ps_for PassesOwn.never rfl (pi_enumT rfl B.enumerate_ (pa_cons (pv 0) pa_nil)) (pg_tup rfl (pgs_cons (pg_name (i := 1) sc_check_measures.nd rfl (.inl rfl)) (pgs_cons (pg_name (i := 2) sc_check_measures.nd rfl (.inl rfl)) pgs_nil))) (pss_one (ps_if (PW.pt (pw_or (pt_cmpR op_eq (pv 1) (pe_gi rfl k_MOST_MEASURES) (nomark _)) (pw_or (pt_not (pt_val (pe_cal c_is_name hr (by decide) rfl (pa_cons (pv 2) pa_nil)))) (pw_or1 (pt_cmpR (r := rIn K false) op_in_seq (pv 2) (pe_slice (r := rSlA K) sl_tupA (pv 0) po_none (po_some (pv 1))) (by rfl)))))) (pss_one ps_never) pss_nil))))), ?_⟩
    walk_at "rd"
    refine isi_tup (tyd_sqT hS) ?_
    walk_at "rd"
    refine ⟨a, _, rfl, .inr hS, ?_⟩
    walk_at "rd"
    rw [decide_eq_false (show ¬ ((ms.map V.str).length : Int) = 0 by rw [List.length_map]; omega)]
    walk_at "rd"
    refine forE (fun R h => ⟨_, rfl, h⟩) hS (fun i σ' H' => ∃ y z, σ' = [some (.ref a), y, z] ∧ Ex H H') ⟨_, _, rfl, .refl⟩ (fun i σ' H' p => by
      obtain ⟨_, _, _, e⟩ := p
      exact e.seqT hS) ?_ ?_
    · rintro i x T σ' H' hx ⟨y, z, rfl, e⟩ hT
      obtain ⟨s, hs, rfl⟩ : ∃ s, ms[i]? = some s ∧ x = .str s := by
        rw [List.getElem?_map] at hx
        cases e1 : ms[i]? with
        | none =>
          rw [e1] at hx
          cases hx
        | some s =>
          rw [e1] at hx
          cases hx
          exact ⟨s, rfl, rfl⟩
      have hi : i < ms.length := (List.getElem?_eq_some_iff.mp hs).1
      have hns := hn s (List.mem_of_getElem? hs)
      walk_at "rd"
      refine ⟨_, sqT upd_same, rfl, _, _, rfl, _, _, rfl, rfl, ?_⟩
      walk_at "rd"
      rw [decide_eq_false (show ¬ (i : Int) = 2 by omega)]
      walk_at "rd"
      refine ⟨.str s, .str s, rfl, .str s, Nat.le_trans (nameOk_len hns).2 (by decide), fun H1 e1 => ?_⟩
      refine ⟨true, by rw [D.isName, hns], ?_⟩
      walk_at "rd"
      have e2 : Ex H H1 := (e.trans (.new hT)).trans e1
      refine slA_take (e2.seqT hS) fun p H2 e3 h3 => ?_
      refine ⟨p, _, rfl, .inr h3, rfl, by rw [← List.map_take]; exact Z.flat_strs _, ?_⟩
      walk_at "rd"
      rw [← List.map_take, inV_strs, decide_eq_false (not_mem_take hd hs)]
      walk_at "rd"
      exact ⟨_, _, ⟨rfl, rfl⟩, e2.trans e3⟩
    · rintro σ' H' ⟨y, z, rfl, e⟩
      exact q H' e
theorem all_isIn {ws : List Int} {lo hi : Int} (h : ∀ x ∈ ws, lo ≤ x ∧ x ≤ hi) : (ws.map D.int).all (fun d => d.isIn lo hi) = true := by
  rw [List.all_map, List.all_eq_true]
  intro x hx
  obtain ⟨h1, h2⟩ := h x hx
  show (decide (lo ≤ x) && decide (x ≤ hi)) = true
  rw [decide_eq_true h1, decide_eq_true h2]
  rfl
theorem Kd.isKind {m : Nat} {k : Kd} (h : Kd.ok m k) : D.isKind k.d (m : Int) = true := by
  have e : D.isKind k.d (m : Int) = (nameOk k.n && ((decide (1 ≤ k.c) && decide (k.c ≤ 3)) && (decide (((k.w.map D.int).length : Int) = (m : Int)) && (k.w.map D.int).all fun d => d.isIn 0 6))) := rfl
  rw [e, h.n, decide_eq_true h.c.1, decide_eq_true h.c.2, all_isIn h.w, decide_eq_true (by rw [List.length_map, h.l])]
  rfl
theorem Kd.short {m : Nat} {k : Kd} (h : Kd.ok m k) (hm : m ≤ 2) : D.short3 k.d := by
  refine ⟨?_, trivial, ?_⟩
  · show k.n.length ≤ 90000
    exact Nat.le_trans (nameOk_len h.n).2 (by decide)
  · show (k.w.map D.int).length ≤ 1000
    rw [List.length_map, h.l]
    omega
abbrev s_check_kinds : Stmt := topS 30
theorem sc_check_kinds : FnScope ["kinds", "worths_wanted", "at", "kind"] ["kinds", "worths_wanted"] (defScope s_check_kinds) := ⟨rfl, rfl, rfl, by decide +kernel, rfl, by decide +kernel, by decide +kernel⟩
def spCkK (K : PySem.W.Frag) : Sp := fun vs H Q _ => ∃ a xs, ∃ (m : Nat) (ks : List Kd), vs = [.ref a, .int (m : Int)] ∧ SqT K H a xs ∧ DTs K H xs (ks.map Kd.d) ∧ m ≤ 2 ∧ (1 ≤ ks.length ∧ ks.length ≤ 4) ∧ (∀ k ∈ ks, Kd.ok m k) ∧ (ks.map Kd.n).Nodup ∧
  ∀ H', Ex H H' → Q .non H'
theorem ok_check_kinds (B : Bl mg) (k_MOST_KINDS : ∃ t, mg "MOST_KINDS" = some (.int 4 t)) (c_is_kind : Cal P w K mg base 4 "_is_kind" ["value", "worths_wanted"] (spKind K)) (c_names : Cal P w K mg base 1 "_names" ["rows"] (spNames K)) (D0 : Df K mg "_check_kinds" s_check_kinds) :
    Cal P w K mg base 5 "_check_kinds" ["kinds", "worths_wanted"] (spCkK K) := by
  refine D0.cal sc_check_kinds (fun _ _ _ _ _ _ us hl => match us, hl with | [_, _], _ => rfl) (fun vs H Q E h => ?_) (fun f cdv A outer s H vs Q E hr h => ?_)
  · obtain ⟨a, xs, m, ks, rfl, _⟩ := h
    rfl
  · obtain ⟨a, xs, m, ks, rfl, hS, hs, hm, hl, hk, hd, q⟩ := h
    refine ⟨_, (pss_cons (ps_if (PW.pt (pw_or (pt_not (pt_val (pe_callB (r := rIsi K) call_isi (by rfl) B.isinstance_ (by decide +kernel) (pa_cons (pv 0) (pa_cons (pe_bltn (by rfl) B.tuple_ (by decide +kernel) (v := .ty "tuple") rfl) pa_nil))))) (pw_or1 (pt_cmpR op_eq (pe_callB (r := rLenQ K) call_len_seq (by rfl) B.len_ PySem.boot_len (pa_cons (pv 0) pa_nil)) pe_int (nomark _))))) (pss_one ps_never) pss_nil)
      (pss_one (ps_for PassesOwn.never rfl (pi_enumT rfl B.enumerate_ (pa_cons (pv 0) pa_nil)) (pg_tup rfl (pgs_cons (pg_name (i := 2) sc_check_kinds.nd rfl (.inl rfl)) (pgs_cons (pg_name (i := 3) sc_check_kinds.nd rfl (.inl rfl)) pgs_nil))) (pss_one (ps_if (PW.pt (pw_or (pt_cmpR op_eq (pv 2) (pe_gi rfl k_MOST_KINDS) (nomark _)) (pw_or (pt_not (pt_val (pe_cal c_is_kind hr (by decide) rfl (pa_cons (pv 3) (pa_cons (pv 1) pa_nil))))) (pw_or1 (pt_cmpR (r := rIn K false) op_in_seq (pe_ix (r := rIxT K) ix_tup (pv 3) pe_int (fun _ _ => rfl)) (pe_cal c_names hr (by decide) rfl (pa_cons (pe_slice (r := rSlA K) sl_tupA (pv 0) po_none (po_some (pv 2))) pa_nil)) (by rfl)))))) (pss_one ps_never) pss_nil))))), ?_⟩
    walk_at "rd"
    refine isi_tup (tyd_sqT hS) ?_
    walk_at "rd"
    refine ⟨a, _, rfl, .inr hS, ?_⟩
    walk_at "rd"
    have hxl := hs.lenM
    rw [decide_eq_false (show ¬ (xs.length : Int) = 0 by omega)]
    walk_at "rd"
    refine forE (fun R h => ⟨_, rfl, h⟩) hS (fun i σ' H' => ∃ y z, σ' = [some (.ref a), some (.int (m : Int)), y, z] ∧ Ex H H') ⟨_, _, rfl, .refl⟩ (fun i σ' H' p => by
      obtain ⟨_, _, _, e⟩ := p
      exact e.seqT hS) ?_ ?_
    · rintro i x T σ' H' hx ⟨y, z, rfl, e⟩ hT
      obtain ⟨k, hk1, hk2⟩ := hs.getM hx
      have hi : i < ks.length := (List.getElem?_eq_some_iff.mp hk1).1
      have hok := hk k (List.mem_of_getElem? hk1)
      walk_at "rd"
      refine ⟨_, sqT upd_same, rfl, _, _, rfl, _, _, rfl, rfl, ?_⟩
      walk_at "rd"
      rw [decide_eq_false (show ¬ (i : Int) = 4 by omega)]
      walk_at "rd"
      have e0 : Ex H (upd H' T (.tup [.int (i : Int), x])) := e.trans (.new hT)
      refine ⟨x, k.d, (m : Int), rfl, hk2.mono e0.any, Kd.short hok hm, fun H1 e1 => ?_⟩
      rw [Kd.isKind hok]
      walk_at "rd"
      have e2 : Ex H H1 := e0.trans e1
      obtain ⟨p, b, rfl, h1, h2⟩ := (hk2.mono e2.any).kd
      refine ⟨p, _, 0, _, rfl, rfl, h1, atI_nat (j := 0) rfl, ?_⟩
      refine slA_take (e2.seqT hS) fun p' H2 e3 h3 => ?_
      have e4 := e2.trans e3
      refine ⟨p', _, (ks.map Kd.n).take i, rfl, h3, by rw [List.length_take, List.length_take, List.length_map, hxl], by rw [List.length_take, List.length_map]; omega, fun j x' s' hx' hs' => ?_, fun l H3 hl3 e5 h5 => ?_⟩
      · rw [List.getElem?_take] at hx' hs'
        by_cases hj : j < i
        · rw [if_pos hj] at hx' hs'
          obtain ⟨k', hk1', hk2'⟩ := hs.getM hx'
          rw [List.getElem?_map, hk1'] at hs'
          cases hs'
          obtain ⟨p2, b2, rfl, h6, _⟩ := (hk2'.mono e4.any).kd
          exact ⟨p2, _, rfl, h6⟩
        · rw [if_neg hj] at hx'
          cases hx'
      · refine ⟨l, _, rfl, .inl (sqL h5), rfl, Z.flat_strs _, ?_⟩
        walk_at "rd"
        rw [inV_strs, decide_eq_false (not_mem_take hd (by rw [List.getElem?_map, hk1]; rfl))]
        walk_at "rd"
        exact ⟨_, _, ⟨rfl, rfl⟩, e4.trans e5⟩
    · rintro σ' H' ⟨y, z, rfl, e⟩
      exact q H' e
end
end K11

namespace K11
open PySem PySem.Spec PyProof.Rows L2 Z ZE
local macro_rules | `(tactic| walk_at "rd") => `(tactic| try simp only [cxOf, tSeq, tIfS, tRet, tRetN, tAsg, tDrop, tNext, tBreak, tCont, tNever, tPar, tPar3, tAug, gName, gTup, gCons, gNil, gSub, tVar, tC, tOp, tUn, tCB, tBM, tBM0, tCons, tNil, tTest, tB, tAnd, tOr, tNot, tAndV, tOrV, tNotV, tIf, tChain,
  tTup, tLst, tCall, tMeth, tSl, tPart, tNoPart, tM1, tFmt, tJs_nil, tJs_cons, tCKw, rI0, rI, rU, rEq, rNe, scal_ii, scal_ss, scal_bb, ipI, iStr, iTup, iList, iRng1, sFld, tFld, L2.start, List.getElem?_cons_zero, List.getElem?_cons_succ, List.set_cons_zero, List.set_cons_succ, Option.some.injEq, V.int.injEq, V.bl.injEq, V.str.injEq, V.ref.injEq,
  List.cons.injEq, exists_and_left, exists_eq_left', exists_eq_left, exists_eq_right, exists_eq_right', exists_eq', exists_eq, and_true, true_and, and_self, List.map_cons, List.map_nil, List.length_cons, List.length_nil, List.replicate_succ, List.replicate_zero, List.cons_append, List.nil_append, List.append_nil,
  Nat.add_sub_cancel, Nat.reduceAdd, Nat.reduceSub, if_true, if_false, ite_true, ite_false, Bool.not_true, Bool.not_false, Bool.true_eq_false, Bool.false_eq_true, reduceIte, reduceCtorEq, false_and, exists_false, or_false, false_or, decide_true, decide_false, wipe])

section
variable {P : Program} {w : World} {K : PySem.W.Frag} {mg : Str → Option Value} {base : Heap}
theorem strs_map (rs : List Str) : D.strs (rs.map D.str) = rs := by
  induction rs with
  | nil => rfl
  | cons r rs ih =>
    show r :: D.strs (rs.map D.str) = r :: rs
    rw [ih]
theorem Pn.isPerson {ks : List Str} {p : Pn} (h : Pn.ok ks p) (hk : ∀ s ∈ ks, nameOk s = true) : D.isPerson p.d ks = true := by
  have e : D.isPerson p.d ks = (nameOk p.n && ((decide (1 ≤ p.s) && decide (p.s ≤ 3)) && ((p.r.map D.str).all D.isName && decide (D.strs (p.r.map D.str) = ks.filter fun n => decide (n ∈ D.strs (p.r.map D.str)))))) := rfl
  have e2 : (p.r.map D.str).all D.isName = true := by
    rw [List.all_map, List.all_eq_true]
    intro s hs
    rw [h.r] at hs
    exact hk s (List.mem_filter.mp hs).1
  rw [e, h.n, decide_eq_true h.s.1, decide_eq_true h.s.2, e2, strs_map, decide_eq_true h.r]
  rfl
theorem Pn.short {ks : List Str} {p : Pn} (h : Pn.ok ks p) (hk : ∀ s ∈ ks, nameOk s = true) (hl : ks.length ≤ 1000) : D.shortP p.d := by
  refine ⟨?_, trivial, ?_, ?_⟩
  · show p.n.length ≤ 90000
    exact Nat.le_trans (nameOk_len h.n).2 (by decide)
  · rw [List.length_map, h.r]
    exact Nat.le_trans (List.length_filter_le _ _) hl
  · intro d hd
    obtain ⟨s, hs, rfl⟩ := List.mem_map.mp hd
    rw [h.r] at hs
    show s.length ≤ 90000
    exact Nat.le_trans (nameOk_len (hk s (List.mem_filter.mp hs).1)).2 (by decide)
abbrev s_check_people : Stmt := topS 31
theorem sc_check_people : FnScope ["people", "kind_names", "most", "at", "person"] ["people", "kind_names", "most"] (defScope s_check_people) := ⟨rfl, rfl, rfl, by decide +kernel, rfl, by decide +kernel, by decide +kernel⟩
def spCkP (K : PySem.W.Frag) : Sp := fun vs H Q _ => ∃ a xs l, ∃ (m : Int) (ns : List Str) (ps : List Pn), vs = [.ref a, .ref l, .int m] ∧ SqT K H a xs ∧ DTs K H xs (ps.map Pn.d) ∧ H l = some (.lst (ns.map V.str)) ∧ ns.length ≤ 1000 ∧ (∀ s ∈ ns, nameOk s = true) ∧
  (2 ≤ ps.length ∧ ps.length ≤ 3 ∧ (ps.length : Int) ≤ m) ∧ (∀ p ∈ ps, Pn.ok ns p) ∧ (ps.map Pn.n).Nodup ∧ ∀ H', Ex H H' → Q .non H'
theorem ok_check_people (B : Bl mg) (k_FEWEST_PEOPLE : ∃ t, mg "_FEWEST_PEOPLE" = some (.int 2 t)) (c_is_person : Cal P w K mg base 3 "_is_person" ["value", "kind_names"] (spPerson K)) (c_names : Cal P w K mg base 1 "_names" ["rows"] (spNames K)) (D0 : Df K mg "_check_people" s_check_people) :
    Cal P w K mg base 4 "_check_people" ["people", "kind_names", "most"] (spCkP K) := by
  refine D0.cal sc_check_people (fun _ _ _ _ _ _ us hl => match us, hl with | [_, _, _], _ => rfl) (fun vs H Q E h => ?_) (fun f cdv A outer s H vs Q E hr h => ?_)
  · obtain ⟨a, xs, l, m, ns, ps, rfl, _⟩ := h
    rfl
  · obtain ⟨a, xs, l, m, ns, ps, rfl, hS, hs, hn, hnl, hno, hl, hk, hd, q⟩ := h
    refine ⟨_, (pss_cons (ps_if (PW.pt (pw_or (pt_not (pt_val (pe_callB (r := rIsi K) call_isi (by rfl) B.isinstance_ (by decide +kernel) (pa_cons (pv 0) (pa_cons (pe_bltn (by rfl) B.tuple_ (by decide +kernel) (v := .ty "tuple") rfl) pa_nil))))) (pw_or1 (pt_cmpR op_lt (pe_callB (r := rLenQ K) call_len_seq (by rfl) B.len_ PySem.boot_len (pa_cons (pv 0) pa_nil)) (pe_gi rfl k_FEWEST_PEOPLE) (nomark _))))) (pss_one ps_never) pss_nil)
      (pss_one (ps_for PassesOwn.never rfl (pi_enumT rfl B.enumerate_ (pa_cons (pv 0) pa_nil)) (pg_tup rfl (pgs_cons (pg_name (i := 3) sc_check_people.nd rfl (.inl rfl)) (pgs_cons (pg_name (i := 4) sc_check_people.nd rfl (.inl rfl)) pgs_nil))) (pss_one (ps_if (PW.pt (pw_or (pt_cmpR op_eq (pv 3) (pv 2) (nomark _)) (pw_or (pt_not (pt_val (pe_cal c_is_person hr (by decide) rfl (pa_cons (pv 4) (pa_cons (pv 1) pa_nil))))) (pw_or1 (pt_cmpR (r := rIn K false) op_in_seq (pe_ix (r := rIxT K) ix_tup (pv 4) pe_int (fun _ _ => rfl)) (pe_cal c_names hr (by decide) rfl (pa_cons (pe_slice (r := rSlA K) sl_tupA (pv 0) po_none (po_some (pv 3))) pa_nil)) (by rfl)))))) (pss_one ps_never) pss_nil))))), ?_⟩
    walk_at "rd"
    refine isi_tup (tyd_sqT hS) ?_
    walk_at "rd"
    refine ⟨a, _, rfl, .inr hS, ?_⟩
    walk_at "rd"
    have hxl := hs.lenM
    rw [decide_eq_false (show ¬ (xs.length : Int) < 2 by omega)]
    walk_at "rd"
    refine forE (fun R h => ⟨_, rfl, h⟩) hS (fun i σ' H' => ∃ y z, σ' = [some (.ref a), some (.ref l), some (.int m), y, z] ∧ Ex H H') ⟨_, _, rfl, .refl⟩ (fun i σ' H' p => by
      obtain ⟨_, _, _, e⟩ := p
      exact e.seqT hS) ?_ ?_
    · rintro i x T σ' H' hx ⟨y, z, rfl, e⟩ hT
      obtain ⟨k, hk1, hk2⟩ := hs.getM hx
      have hi : i < ps.length := (List.getElem?_eq_some_iff.mp hk1).1
      have hok := hk k (List.mem_of_getElem? hk1)
      walk_at "rd"
      refine ⟨_, sqT upd_same, rfl, _, _, rfl, _, _, rfl, rfl, ?_⟩
      walk_at "rd"
      rw [decide_eq_false (show ¬ (i : Int) = m by omega)]
      walk_at "rd"
      have e0 : Ex H (upd H' T (.tup [.int (i : Int), x])) := e.trans (.new hT)
      refine ⟨x, k.d, l, ns, rfl, hk2.mono e0.any, Pn.short hok hno hnl, e0.get hn, hnl, fun H1 e1 => ?_⟩
      rw [Pn.isPerson hok hno]
      walk_at "rd"
      have e2 : Ex H H1 := e0.trans e1
      obtain ⟨p, b, rfl, h1, h2⟩ := (hk2.mono e2.any).pn
      refine ⟨p, _, 0, _, rfl, rfl, h1, atI_nat (j := 0) rfl, ?_⟩
      refine slA_take (e2.seqT hS) fun p' H2 e3 h3 => ?_
      have e4 := e2.trans e3
      refine ⟨p', _, (ps.map Pn.n).take i, rfl, h3, by rw [List.length_take, List.length_take, List.length_map, hxl], by rw [List.length_take, List.length_map]; omega, fun j x' s' hx' hs' => ?_, fun l2 H3 hl3 e5 h5 => ?_⟩
      · rw [List.getElem?_take] at hx' hs'
        by_cases hj : j < i
        · rw [if_pos hj] at hx' hs'
          obtain ⟨k', hk1', hk2'⟩ := hs.getM hx'
          rw [List.getElem?_map, hk1'] at hs'
          cases hs'
          obtain ⟨p2, b2, rfl, h6, _⟩ := (hk2'.mono e4.any).pn
          exact ⟨p2, _, rfl, h6⟩
        · rw [if_neg hj] at hx'
          cases hx'
      · refine ⟨l2, _, rfl, .inl (sqL h5), rfl, Z.flat_strs _, ?_⟩
        walk_at "rd"
        rw [inV_strs, decide_eq_false (not_mem_take hd (by rw [List.getElem?_map, hk1]; rfl))]
        walk_at "rd"
        exact ⟨_, _, ⟨rfl, rfl⟩, e4.trans e5⟩
    · rintro σ' H' ⟨y, z, rfl, e⟩
      exact q H' e
abbrev s_text_of : Stmt := topS 37
theorem sc_text_of : FnScope ["measures", "kinds", "people", "rows", "name", "count", "worths", "told", "share", "refused", "without", "worth"] ["measures", "kinds", "people"] (defScope s_text_of) := ⟨rfl, rfl, rfl, by decide +kernel, rfl, by decide +kernel, by decide +kernel⟩
def spText (K : PySem.W.Frag) : Sp := fun vs H Q _ => ∃ a b c kx px, ∃ o : Od, vs = [.ref a, .ref b, .ref c] ∧ SqT K H a (o.ms.map V.str) ∧ SqT K H b kx ∧ DTs K H kx (o.ks.map Kd.d) ∧ SqT K H c px ∧ DTs K H px (o.ps.map Pn.d) ∧ o.ok ∧ ∀ H', Ex H H' → Q (.str o.text) H'
theorem ok_text_of (B : Bl mg) (D0 : Df K mg "_text_of" s_text_of) : Cal P w K mg base 1 "_text_of" ["measures", "kinds", "people"] (spText K) := by
  refine D0.cal sc_text_of (fun _ _ _ _ _ _ us hl => match us, hl with | [_, _, _], _ => rfl) (fun vs H Q E h => ?_) (fun f cdv A outer s H vs Q E hr h => ?_)
  · obtain ⟨a, b, c, kx, px, o, rfl, _⟩ := h
    rfl
  · obtain ⟨a, b, c, kx, px, o, rfl, hM, hK, hKs, hP, hPs, ho, q⟩ := h
    refine ⟨_, (pss_cons (ps_set (i := 3) sc_text_of.nd rfl (.inl rfl) (pe_lst (pa_cons (pe_op op_add_str pe_str (pe_join pe_str (pv 0))) pa_nil)))
      (pss_cons (ps_for PassesOwn.never rfl (pi_tup (pv 1)) (pg_tup rfl (pgs_cons (pg_name (i := 4) sc_text_of.nd rfl (.inl rfl)) (pgs_cons (pg_name (i := 5) sc_text_of.nd rfl (.inl rfl)) (pgs_cons (pg_name (i := 6) sc_text_of.nd rfl (.inl rfl)) pgs_nil)))) (pss_cons (ps_set (i := 7) sc_text_of.nd rfl (.inl rfl) (pe_join pe_str (pe_lc (own := [("worth", 11)]) (g := gName 11) rfl sc_text_of.nd (pi_tup (pv 6)) (blkOk_by (N := ["measures", "kinds", "people", "rows", "name", "count", "worths", "told", "share", "refused", "without", "worth"]) (sc := defScope s_text_of) (by decide +kernel)) (fun _ _ _ _ _ => (pg_name (i := 11) sc_text_of.nd rfl (.inl rfl))) (fun _ _ _ _ _ => pts_nil) (fun _ _ _ _ _ => (pe_callTy call_str_int (by rfl) B.str_ (by decide +kernel) (pa_cons (pv 11) pa_nil))))))
      (pss_one (ps_expr (pe_bm PySem.F.plainAttrs_list PySem.F.slot_list_append PySem.F.type_list_append mt_append (pv 3) (pa_cons (pe_joined (.cons pe_str (.cons (pe_fmt (pv 4)) (.cons pe_str (.cons (pe_fmt (pv 5)) (.cons pe_str (.cons (pe_fmt (pv 7)) PJ.nil))))))) pa_nil))))))
      (pss_cons (ps_for PassesOwn.never rfl (pi_tup (pv 2)) (pg_tup rfl (pgs_cons (pg_name (i := 4) sc_text_of.nd rfl (.inl rfl)) (pgs_cons (pg_name (i := 8) sc_text_of.nd rfl (.inl rfl)) (pgs_cons (pg_name (i := 9) sc_text_of.nd rfl (.inl rfl)) pgs_nil)))) (pss_cons (ps_set (i := 10) sc_text_of.nd rfl (.inl rfl) (pe_join pe_str (pv 9)))
      (pss_one (ps_expr (pe_bm PySem.F.plainAttrs_list PySem.F.slot_list_append PySem.F.type_list_append mt_append (pv 3) (pa_cons (pe_ifExp (pt_truth (pv 9) (by intro _; rfl)) (pe_joined (.cons pe_str (.cons (pe_fmt (pv 4)) (.cons pe_str (.cons (pe_fmt (pv 8)) (.cons pe_str (.cons (pe_fmt (pv 10)) PJ.nil))))))) (pe_joined (.cons pe_str (.cons (pe_fmt (pv 4)) (.cons pe_str (.cons (pe_fmt (pv 8)) PJ.nil)))))) pa_nil))))))
      (pss_one (ps_ret (pe_join pe_str (pv 3))))))), ?_⟩
    walk_at "rd"
    refine ⟨o.ms, .inr hM, by have := Od.joinM ho; omega, ?_, by decide, fun l hl => ?_⟩
    · have h1 := Od.lM ho
      unfold rowM at h1
      rw [app_len] at h1
      exact Nat.le_trans h1 (by decide)
    have hkl := hKs.lenM
    have hpl := hPs.lenM
    have hk4 := ho.k1
    have hp3 := ho.p1
    refine forTp (a := b) (xs := kx) (fun R h => ⟨_, rfl, h⟩) (Gr.seqT (m := nob) (.new hl) hK) (fun i σ' H' => ∃ y4 y5 y6 y7 y8 y9 y10 y11, σ' = [some (.ref a), some (.ref b), some (.ref c), some (.ref l), y4, y5, y6, y7, y8, y9, y10, y11] ∧ Ex H H' ∧ H' l = some (.lst ((rowM o.ms :: (o.ks.take i).map rowK).map V.str)))
      ⟨_, _, _, _, _, _, _, _, rfl, .new hl, upd_same⟩ (fun i σ' H' p => by
        obtain ⟨_, _, _, _, _, _, _, _, _, e, _⟩ := p
        exact e.seqT hK) ?_ ?_
    · rintro i x σ' H' hx ⟨y4, y5, y6, y7, y8, y9, y10, y11, rfl, e, hL⟩
      obtain ⟨k, hk1, hk2⟩ := hKs.getM hx
      have hkm := List.mem_of_getElem? hk1
      have hi : i < o.ks.length := (List.getElem?_eq_some_iff.mp hk1).1
      obtain ⟨p', b', rfl, h1, h2⟩ := (hk2.mono e.any).kd
      walk_at "rd"
      refine ⟨_, h1, rfl, _, _, rfl, _, _, rfl, _, _, rfl, rfl, ?_⟩
      walk_at "rd"
      refine lcTf (a := b') (xs := k.w.map V.int) (fun R h => ⟨_, rfl, h⟩) h2 (by rw [List.length_map, (ho.k2 k hkm).l]; have := ho.m1; omega) ((k.w.map num).map V.str) (by rw [List.length_map, List.length_map, List.length_map]) ?_ ?_
      · intro j x z H2 Q' hx' hz' e2 q'
        rw [List.getElem?_map] at hx'
        rw [List.map_map, List.getElem?_map] at hz'
        cases e3 : k.w[j]? with
        | none =>
          rw [e3] at hx'
          cases hx'
        | some n =>
          rw [e3] at hx' hz'
          cases hx'
          cases hz'
          walk_at "rd"
          have hn := (ho.k2 k hkm).w n (List.mem_of_getElem? e3)
          refine ⟨?_, q' H2 .refl⟩
          have h9 : n.natAbs ≤ 6 := by omega
          exact Nat.lt_of_le_of_lt (Nat.log2_le_self _) (by omega)
      · intro D1 H2 hD e2 h3
        walk_at "rd"
        refine ⟨k.w.map num, .inl (sqL h3), by have := Od.joinW ho hkm; omega, .inl ⟨rfl, _, sqL (e2.get hL)⟩, ?_⟩
        have hlk := Od.lK ho hkm
        unfold rowK at hlk
        simp only [app_len, num] at hlk
        have hnk := (nameOk_len (ho.k2 k hkm).n).2
        have hck : k.c.natAbs.log2 < 1920 := by
          have := (ho.k2 k hkm).c
          exact Nat.lt_of_le_of_lt (Nat.log2_le_self _) (by omega)
        walk_at "rd"
        refine ⟨small (by simp only [app_len]; omega), small (by omega), small (by simp only [app_len]; omega), small (by simp only [app_len]; omega), hck, small (by simp only [app_len]; omega), small (by simp only [app_len]; omega), small (by omega), small (by simp only [app_len]; omega), ?_⟩
        refine ⟨l, _, _, rfl, rfl, e2.get hL, smallt (by simp only [List.length_map, List.length_cons, List.length_take]; omega), ?_⟩
        refine ⟨_, _, _, _, _, _, _, _, ⟨rfl, rfl, rfl, rfl, rfl, rfl, rfl, rfl⟩, (e.trans e2).put (e2.get hL) (.inl hl), ?_⟩
        rw [upd_same, List.take_add_one, hk1]
        simp only [Option.toList_some, List.map_append, List.map_cons, List.map_nil, List.cons_append, List.nil_append, List.append_assoc]
        rfl
    · rintro σ' H' ⟨y4, y5, y6, y7, y8, y9, y10, y11, rfl, e, hL⟩
      rw [hkl, List.take_length] at hL
      walk_at "rd"
      refine forTp (a := c) (xs := px) (fun R h => ⟨_, rfl, h⟩) (e.seqT hP) (fun i σ' H' => ∃ y4 y5 y6 y7 y8 y9 y10 y11, σ' = [some (.ref a), some (.ref b), some (.ref c), some (.ref l), y4, y5, y6, y7, y8, y9, y10, y11] ∧ Ex H H' ∧ H' l = some (.lst ((rowM o.ms :: (o.ks.map rowK ++ (o.ps.take i).map rowP)).map V.str)))
        ⟨_, _, _, _, _, _, _, _, rfl, e, by rw [List.take_zero, List.map_nil, List.append_nil]; exact hL⟩ (fun i σ' H' p => by
          obtain ⟨_, _, _, _, _, _, _, _, _, e, _⟩ := p
          exact e.seqT hP) ?_ ?_
      · rintro i x σ' H2 hx ⟨y4, y5, y6, y7, y8, y9, y10, y11, rfl, e, hL⟩
        obtain ⟨p, hk1, hk2⟩ := hPs.getM hx
        have hpm := List.mem_of_getElem? hk1
        have hi : i < o.ps.length := (List.getElem?_eq_some_iff.mp hk1).1
        obtain ⟨p', b', rfl, h1, h2⟩ := (hk2.mono e.any).pn
        walk_at "rd"
        refine ⟨_, h1, rfl, _, _, rfl, _, _, rfl, _, _, rfl, rfl, ?_⟩
        have hj := Od.joinR ho hpm
        have hjl := join_len (", " : Str) p.r
        walk_at "rd"
        refine ⟨p.r, .inr h2, by omega, .inl ⟨rfl, _, sqL hL⟩, _, .inr (.inl ⟨_, h2, rfl⟩), ?_⟩
        have hnk := (nameOk_len (ho.p3 p hpm).n).2
        have hck : p.s.natAbs.log2 < 1920 := by
          have := (ho.p3 p hpm).s
          exact Nat.lt_of_le_of_lt (Nat.log2_le_self _) (by omega)
        have hlk := Od.lP ho hpm
        have fin : ∀ z : Str, z = rowP p → (upd H2 l (.lst ((rowM o.ms :: (o.ks.map rowK ++ (o.ps.take i).map rowP)).map V.str ++ [V.str z]))) l = some (.lst ((rowM o.ms :: (o.ks.map rowK ++ (o.ps.take (i + 1)).map rowP)).map V.str)) := by
          rintro z rfl
          rw [upd_same, List.take_add_one, hk1]
          simp only [Option.toList_some, List.map_append, List.map_cons, List.map_nil, List.cons_append, List.nil_append, List.append_assoc]
        have hsz : ((rowM o.ms :: (o.ks.map rowK ++ (o.ps.take i).map rowP)).map V.str).length < sizeLine := smallt (by simp only [List.length_map, List.length_cons, List.length_append, List.length_take]; omega)
        by_cases hr0 : p.r = []
        · have er : rowP p = Str.empty ++ ("person " : Str) ++ p.n ++ (" " : Str) ++ num p.s := by rw [rowP, if_pos hr0]
          rw [er] at hlk
          simp only [app_len, num] at hlk
          rw [hr0]
          refine iteF ?_
          walk_at "rd"
          refine ⟨small (by simp only [app_len]; omega), small (by omega), small (by simp only [app_len]; omega), small (by simp only [app_len]; omega), hck, small (by simp only [app_len]; omega), ?_⟩
          refine ⟨l, _, _, rfl, rfl, hL, hsz, ?_⟩
          exact ⟨_, _, _, _, _, _, _, _, ⟨rfl, rfl, rfl, rfl, rfl, rfl, rfl, rfl⟩, e.put hL (.inl hl), fin _ er.symm⟩
        · have er : rowP p = Str.empty ++ ("person " : Str) ++ p.n ++ (" " : Str) ++ num p.s ++ (" without " : Str) ++ Txt.join (", " : Str) p.r := by rw [rowP, if_neg hr0]
          rw [er] at hlk
          simp only [app_len, num] at hlk
          have ene : (!(p.r.map V.str).isEmpty) = true := by
            cases hq : p.r with
            | nil => exact absurd hq hr0
            | cons z r => rfl
          rw [ene]
          refine iteT ?_
          walk_at "rd"
          refine ⟨small (by simp only [app_len]; omega), small (by omega), small (by simp only [app_len]; omega), small (by simp only [app_len]; omega), hck, small (by simp only [app_len]; omega), small (by simp only [app_len]; omega), small (by omega), small (by simp only [app_len]; omega), ?_⟩
          refine ⟨l, _, _, rfl, rfl, hL, hsz, ?_⟩
          exact ⟨_, _, _, _, _, _, _, _, ⟨rfl, rfl, rfl, rfl, rfl, rfl, rfl, rfl⟩, e.put hL (.inl hl), fin _ er.symm⟩
      · rintro σ' H2 ⟨y4, y5, y6, y7, y8, y9, y10, y11, rfl, e, hL⟩
        rw [hpl, List.take_length] at hL
        walk_at "rd"
        refine ⟨_, .inl (sqL hL), by have := Od.joinT ho; omega, ?_⟩
        exact q H2 e
end
end K11

namespace K11
open PySem PySem.Spec PyProof.Rows L2 Z ZE
local macro_rules | `(tactic| walk_at "rd") => `(tactic| try simp only [cxOf, tSeq, tIfS, tRet, tRetN, tAsg, tDrop, tNext, tBreak, tCont, tNever, tPar, tPar3, tAug, gName, gTup, gCons, gNil, gSub, tVar, tC, tOp, tUn, tCB, tBM, tBM0, tCons, tNil, tTest, tB, tAnd, tOr, tNot, tAndV, tOrV, tNotV, tIf, tChain,
  tTup, tLst, tCall, tMeth, tSl, tPart, tNoPart, tM1, tFmt, tJs_nil, tJs_cons, tCKw, rI0, rI, rU, rEq, rNe, scal_ii, scal_ss, scal_bb, ipI, iStr, iTup, iList, iRng1, sFld, tFld, L2.start, List.getElem?_cons_zero, List.getElem?_cons_succ, List.set_cons_zero, List.set_cons_succ, Option.some.injEq, V.int.injEq, V.bl.injEq, V.str.injEq, V.ref.injEq,
  List.cons.injEq, exists_and_left, exists_eq_left', exists_eq_left, exists_eq_right, exists_eq_right', exists_eq', exists_eq, and_true, true_and, and_self, List.map_cons, List.map_nil, List.length_cons, List.length_nil, List.replicate_succ, List.replicate_zero, List.cons_append, List.nil_append, List.append_nil,
  Nat.add_sub_cancel, Nat.reduceAdd, Nat.reduceSub, if_true, if_false, ite_true, ite_false, Bool.not_true, Bool.not_false, Bool.true_eq_false, Bool.false_eq_true, reduceIte, reduceCtorEq, false_and, exists_false, or_false, false_or, decide_true, decide_false, wipe])

def flds (m k p : V) (t : Str) : List (Str × V) := putF "_text" (.str t) (putF "_people" p (putF "_kinds" k (putF "_measures" m [])))
theorem flds_eq (m k p : V) (t : Str) : flds m k p t = ([("_measures", m), ("_kinds", k), ("_people", p), ("_text", .str t)] : List (Str × V)) := by
  have h1 : ¬ (("_measures" : Str) = "_kinds") := by decide +kernel
  have h2 : ¬ (("_measures" : Str) = "_people") := by decide +kernel
  have h3 : ¬ (("_kinds" : Str) = "_people") := by decide +kernel
  have h4 : ¬ (("_measures" : Str) = "_text") := by decide +kernel
  have h5 : ¬ (("_kinds" : Str) = "_text") := by decide +kernel
  have h6 : ¬ (("_people" : Str) = "_text") := by decide +kernel
  unfold flds
  simp only [putF, if_neg h1, if_neg h2, if_neg h3, if_neg h4, if_neg h5, if_neg h6]
theorem fl_m (m k p : V) (t : Str) : (flds m k p t).lookup ("_measures" : Str) = some m := by
  unfold flds
  rw [lookup_putF, if_neg (by decide +kernel), lookup_putF, if_neg (by decide +kernel), lookup_putF, if_neg (by decide +kernel), lookup_putF, if_pos rfl]
theorem fl_k (m k p : V) (t : Str) : (flds m k p t).lookup ("_kinds" : Str) = some k := by
  unfold flds
  rw [lookup_putF, if_neg (by decide +kernel), lookup_putF, if_neg (by decide +kernel), lookup_putF, if_pos rfl]
theorem fl_p (m k p : V) (t : Str) : (flds m k p t).lookup ("_people" : Str) = some p := by
  unfold flds
  rw [lookup_putF, if_neg (by decide +kernel), lookup_putF, if_pos rfl]
theorem fl_t (m k p : V) (t : Str) : (flds m k p t).lookup ("_text" : Str) = some (.str t) := by
  unfold flds
  rw [lookup_putF, if_pos rfl]
theorem fl_no (m k p : V) (t : Str) {x : Str} (h1 : ¬ x = "_text") (h2 : ¬ x = "_people") (h3 : ¬ x = "_kinds") (h4 : ¬ x = "_measures") : (flds m k p t).lookup x = none := by
  unfold flds
  rw [lookup_putF, if_neg h1, lookup_putF, if_neg h2, lookup_putF, if_neg h3, lookup_putF, if_neg h4]
  rfl
theorem putF_len (f : Str) (v : V) : ∀ l : List (Str × V), (putF f v l).length ≤ l.length + 1
  | [] => Nat.le_refl _
  | (g, u) :: l => by
    have ih := putF_len f v l
    simp only [putF]
    split
    · simp
    · simp only [List.length_cons]
      omega
/-- an order's parts -/
structure PartsAt (K : PySem.W.Frag) (H : Hp) (a b c : Addr) (o : Od) : Prop where
  m : SqT K H a (o.ms.map V.str)
  k : ∃ kx, SqT K H b kx ∧ DTs K H kx (o.ks.map Kd.d)
  p : ∃ px, SqT K H c px ∧ DTs K H px (o.ps.map Pn.d)
  ok : o.ok
theorem PartsAt.mono {K : PySem.W.Frag} {H H' : Hp} {a b c : Addr} {o : Od} (h : PartsAt K H a b c o) (e : Gr any H H') : PartsAt K H' a b c o := by
  obtain ⟨kx, k1, k2⟩ := h.k
  obtain ⟨px, p1, p2⟩ := h.p
  exact ⟨e.seqT h.m, ⟨kx, e.seqT k1, k2.mono e⟩, ⟨px, e.seqT p1, p2.mono e⟩, h.ok⟩
/-- an order stands at x -/
def OrdAt (K : PySem.W.Frag) (C : Addr) (H : Hp) (x : Addr) (o : Od) : Prop := ∃ dx a b c, H x = some (.ins C dx (flds (.ref a) (.ref b) (.ref c) o.text)) ∧ PartsAt K H a b c o
section
variable {P : Program} {w : World} {K : PySem.W.Frag} {mg : Str → Option Value} {base : Heap} {C : Addr}
/-- what the class Order says of itself -/
structure OrdC (K : PySem.W.Frag) (C : Addr) : Prop where
  cl : Cls K C
  nm : NoAttr K C "_measures"
  nk : NoAttr K C "_kinds"
  np : NoAttr K C "_people"
  nt : NoAttr K C "_text"
abbrev s_Order__init : Stmt := inClass (topS 26) 0
theorem sc_Order__init : FnScope ["self", "measures", "kinds", "people"] ["self", "measures", "kinds", "people"] (defScope s_Order__init) := ⟨rfl, rfl, rfl, by decide +kernel, rfl, by decide +kernel, by decide +kernel⟩
def spInit (K : PySem.W.Frag) (C : Addr) : Sp := fun vs H Q _ => ∃ x dx a b c, ∃ o : Od, vs = [.ref x, .ref a, .ref b, .ref c] ∧ H x = some (.ins C dx []) ∧ PartsAt K H a b c o ∧
  ∀ H', Gr (· = x) H H' → H' x = some (.ins C dx (flds (.ref a) (.ref b) (.ref c) o.text)) → Q .non H'
theorem ok_init (B : Bl mg) (c_check_measures : Cal P w K mg base 3 "_check_measures" ["measures"] (spCkM K)) (c_check_kinds : Cal P w K mg base 5 "_check_kinds" ["kinds", "worths_wanted"] (spCkK K))
    (c_check_people : Cal P w K mg base 4 "_check_people" ["people", "kind_names", "most"] (spCkP K)) (c_names : Cal P w K mg base 1 "_names" ["rows"] (spNames K)) (c_most_people : Cal P w K mg base 1 "_most_people" ["measures_told"] spMost)
    (c_text_of : Cal P w K mg base 1 "_text_of" ["measures", "kinds", "people"] (spText K)) (T : OrdC K C) (D0 : Di K mg "Order" "Order.__init__" C s_Order__init) : Mkr P w K mg base 6 "Order" C ["self", "measures", "kinds", "people"] (spInit K C) := by
  refine D0.mkr sc_Order__init (fun _ _ _ _ _ _ us hl => match us, hl with | [_, _, _, _], _ => rfl) (fun vs H Q E h => ?_) (fun f cdv A outer s H vs Q E hr h => ?_)
  · obtain ⟨x, dx, a, b, c, o, rfl, _⟩ := h
    rfl
  · obtain ⟨x, dx, a, b, c, o, rfl, hx, hp, q⟩ := h
    refine ⟨_, (pss_cons (ps_expr (pe_cal c_check_measures hr (by decide) rfl (pa_cons (pv 1) pa_nil)))
      (pss_cons (ps_expr (pe_cal c_check_kinds hr (by decide) rfl (pa_cons (pv 2) (pa_cons (pe_callB (r := rLenQ K) call_len_seq (by rfl) B.len_ PySem.boot_len (pa_cons (pv 1) pa_nil)) pa_nil))))
      (pss_cons (ps_expr (pe_cal c_check_people hr (by decide) rfl (pa_cons (pv 3) (pa_cons (pe_cal c_names hr (by decide) rfl (pa_cons (pv 2) pa_nil)) (pa_cons (pe_cal c_most_people hr (by decide) rfl (pa_cons (pe_callB (r := rLenQ K) call_len_seq (by rfl) B.len_ PySem.boot_len (pa_cons (pv 1) pa_nil)) pa_nil)) pa_nil)))))
      (pss_cons (ps_fld (pv 0) (pv 1) rfl)
      (pss_cons (ps_fld (pv 0) (pv 2) rfl)
      (pss_cons (ps_fld (pv 0) (pv 3) rfl)
      (pss_one (ps_fld (pv 0) (pe_cal c_text_of hr (by decide) rfl (pa_cons (pv 1) (pa_cons (pv 2) (pa_cons (pv 3) pa_nil)))) rfl)))))))), ?_⟩
    have ho := hp.ok
    have hm1 := ho.m1
    have hp1 := ho.p1
    have hp2 := ho.p2
    have hk1 := ho.k1
    walk_at "rd"
    refine ⟨a, o.ms, rfl, hp.m, ho.m1, ho.m2, ho.m3, fun H1 e1 => ?_⟩
    have P1 := hp.mono e1.any
    walk_at "rd"
    refine ⟨a, _, rfl, .inr P1.m, ?_⟩
    walk_at "rd"
    obtain ⟨kx, k1, k2⟩ := P1.k
    refine ⟨b, kx, o.ms.length, o.ks, by rw [List.length_map], k1, k2, by omega, ho.k1, ho.k2, ho.k3, fun H2 e2 => ?_⟩
    have P2 := P1.mono e2.any
    obtain ⟨kx2, k3, k4⟩ := P2.k
    walk_at "rd"
    have hkl := k4.lenM
    refine ⟨b, kx2, o.ks.map Kd.n, rfl, k3, by rw [List.length_map, hkl], by rw [List.length_map]; omega, fun i x s hx hs => ?_, fun l H3 hl e3 h3 => ?_⟩
    · obtain ⟨k, h1, h2⟩ := k4.getM hx
      rw [List.getElem?_map, h1] at hs
      cases hs
      obtain ⟨p', b', rfl, h3, _⟩ := h2.kd
      exact ⟨p', _, rfl, h3⟩
    · have P3 := P2.mono e3.any
      refine ⟨a, _, rfl, .inr P3.m, ?_⟩
      walk_at "rd"
      refine ⟨_, rfl, ?_⟩
      obtain ⟨px, p3, p4⟩ := P3.p
      refine ⟨c, px, l, _, o.ks.map Kd.n, o.ps, rfl, p3, p4, h3, by rw [List.length_map]; omega, fun s hs => ?_, ⟨by omega, by omega, ?_⟩, ho.p3, ho.p4, fun H4 e4 => ?_⟩
      · obtain ⟨k, hk, rfl⟩ := List.mem_map.mp hs
        exact (ho.k2 k hk).n
      · rw [List.length_map]
        split
        · omega
        · omega
      · have P4 := P3.mono e4.any
        have e14 := ((e1.trans e2).trans e3).trans e4
        have hx4 := e14.get hx
        walk_at "rd"
        refine ⟨C, dx, [], hx4, T.cl, T.nm, by decide, ?_⟩
        refine ⟨C, dx, _, upd_same, T.cl, T.nk, Nat.lt_of_le_of_lt (putF_len _ _ _) (by decide), ?_⟩
        refine ⟨C, dx, _, upd_same, T.cl, T.np, Nat.lt_of_le_of_lt (Nat.le_trans (putF_len _ _ _) (Nat.succ_le_succ (putF_len _ _ _))) (by decide), ?_⟩
        rw [upd_upd, upd_upd]
        have eu : ∀ fs, Gr (· = x) H4 (upd H4 x (.ins C dx fs)) := fun fs => Gr.refl.puti hx4 (.inr rfl)
        have P5 := P4.mono (eu (putF "_people" (.ref c) (putF "_kinds" (.ref b) (putF "_measures" (.ref a) [])))).any
        obtain ⟨kx5, k5, k6⟩ := P5.k
        obtain ⟨px5, p5, p6⟩ := P5.p
        refine ⟨a, b, c, kx5, px5, o, rfl, P5.m, k5, k6, p5, p6, ho, fun H5 e5 => ?_⟩
        refine ⟨C, dx, _, e5.get upd_same, T.cl, T.nt, Nat.lt_of_le_of_lt (Nat.le_trans (putF_len _ _ _) (Nat.succ_le_succ (Nat.le_trans (putF_len _ _ _) (Nat.succ_le_succ (putF_len _ _ _))))) (by decide), ?_⟩
        refine q _ ?_ upd_same
        exact (e14.of.trans ((eu _).trans e5.of)).puti (e5.get upd_same) (.inr rfl)
end
end K11

namespace K11
open PySem PySem.Spec PyProof.Rows L2 Z ZE
local macro_rules | `(tactic| walk_at "rd") => `(tactic| try simp only [cxOf, tSeq, tIfS, tRet, tRetN, tAsg, tDrop, tNext, tBreak, tCont, tNever, tPar, tPar3, tAug, gName, gTup, gCons, gNil, gSub, tVar, tC, tOp, tUn, tCB, tBM, tBM0, tCons, tNil, tTest, tB, tAnd, tOr, tNot, tAndV, tOrV, tNotV, tIf, tChain,
  tTup, tLst, tCall, tMeth, tSl, tPart, tNoPart, tM1, tFmt, tJs_nil, tJs_cons, tCKw, rI0, rI, rU, rEq, rNe, scal_ii, scal_ss, scal_bb, ipI, iStr, iTup, iList, iRng1, sFld, tFld, L2.start, List.getElem?_cons_zero, List.getElem?_cons_succ, List.set_cons_zero, List.set_cons_succ, Option.some.injEq, V.int.injEq, V.bl.injEq, V.str.injEq, V.ref.injEq,
  List.cons.injEq, exists_and_left, exists_eq_left', exists_eq_left, exists_eq_right, exists_eq_right', exists_eq', exists_eq, and_true, true_and, and_self, List.map_cons, List.map_nil, List.length_cons, List.length_nil, List.replicate_succ, List.replicate_zero, List.cons_append, List.nil_append, List.append_nil,
  Nat.add_sub_cancel, Nat.reduceAdd, Nat.reduceSub, if_true, if_false, ite_true, ite_false, Bool.not_true, Bool.not_false, Bool.true_eq_false, Bool.false_eq_true, reduceIte, reduceCtorEq, false_and, exists_false, or_false, false_or, decide_true, decide_false, wipe])

section
variable {P : Program} {w : World} {K : PySem.W.Frag} {mg : Str → Option Value} {base : Heap}
abbrev s_lowest : Stmt := topS 42
theorem sc_lowest : FnScope ["top", "bottom", "common"] ["top", "bottom"] (defScope s_lowest) := ⟨rfl, rfl, rfl, by decide +kernel, rfl, by decide +kernel, by decide +kernel⟩
def spLowest (K : PySem.W.Frag) : Sp := fun vs H Q _ => ∃ t b : Int, vs = [.int t, .int b] ∧ 0 < b ∧ b < 1000000 ∧ ∀ p H', Ex H H' → DT K H' (.ref p) (pairD (lowest t b)) → Q (.ref p) H'
theorem ok_lowest (g_gcd : mg "gcd" = some (.builtin "math.gcd")) (D0 : Df K mg "_lowest" s_lowest) : Cal P w K mg base 1 "_lowest" ["top", "bottom"] (spLowest K) := by
  refine D0.cal sc_lowest (fun _ _ _ _ _ _ us hl => match us, hl with | [_, _], _ => rfl) (fun vs H Q E h => ?_) (fun f cdv A outer s H vs Q E hr h => ?_)
  · obtain ⟨t, b, rfl, _⟩ := h
    rfl
  · obtain ⟨t, b, rfl, h1, h2, q⟩ := h
    refine ⟨_, (pss_cons (ps_set (i := 2) sc_lowest.nd rfl (.inl rfl) (pe_callBfun cr_gcd (by rfl) g_gcd (pa_cons (pv 0) (pa_cons (pv 1) pa_nil))))
      (pss_one (ps_ret (pe_tup (pa_cons (pe_op op_fdiv (pv 0) (pv 2)) (pa_cons (pe_op op_fdiv (pv 1) (pv 2)) pa_nil)))))), ?_⟩
    walk_at "rd"
    refine ⟨t, b, rfl, ?_⟩
    walk_at "rd"
    have g1 := gcdI_pos (t := t) h1
    have g2 := gcdI_le (t := t) h1
    refine ⟨⟨g1, Int.lt_of_le_of_lt g2 (by omega)⟩, ⟨g1, Int.lt_of_le_of_lt g2 (by omega)⟩, by decide, fun p hp => ?_⟩
    exact q p _ (.new hp) (.ofPair (q := lowest t b) (sqT upd_same))
abbrev s_parts : Stmt := topS 41
theorem sc_parts : FnScope ["totals", "share", "all_shares", "total"] ["totals", "share", "all_shares"] (defScope s_parts) := ⟨rfl, rfl, rfl, by decide +kernel, rfl, by decide +kernel, by decide +kernel⟩
def spParts (K : PySem.W.Frag) : Sp := fun vs H Q _ => ∃ l, ∃ (ts : List Int) (s b : Int), vs = [.ref l, .int s, .int b] ∧ H l = some (.lst (ts.map V.int)) ∧ ts.length ≤ 1000 ∧ (1 ≤ s ∧ s ≤ 3) ∧ (0 < b ∧ b < 1000000) ∧
  ∀ v H', Ex H H' → DT K H' v (.tup (ts.map fun t => pairD (lowest (t * s) b))) → Q v H'
theorem ok_parts (B : Bl mg) (c_lowest : Cal P w K mg base 1 "_lowest" ["top", "bottom"] (spLowest K)) (D0 : Df K mg "_parts" s_parts) : Cal P w K mg base 2 "_parts" ["totals", "share", "all_shares"] (spParts K) := by
  refine D0.cal sc_parts (fun _ _ _ _ _ _ us hl => match us, hl with | [_, _, _], _ => rfl) (fun vs H Q E h => ?_) (fun f cdv A outer s H vs Q E hr h => ?_)
  · obtain ⟨l, ts, s, b, rfl, _⟩ := h
    rfl
  · obtain ⟨l, ts, s', b, rfl, hL, hl, hs, hb, q⟩ := h
    refine ⟨_, (pss_one (ps_ret (pe_callTy (r := rTupOf K) call_tuple_of (by rfl) B.tuple_ (by decide +kernel) (pa_cons (pe_lc (own := [("total", 3)]) (g := gName 3) rfl sc_parts.nd (pi_list (pv 0)) (blkOk_by (N := ["totals", "share", "all_shares", "total"]) (sc := defScope s_parts) (by decide +kernel)) (fun _ _ _ _ _ => (pg_name (i := 3) sc_parts.nd rfl (.inl rfl))) (fun _ _ _ _ _ => pts_nil) (fun _ _ _ _ _ => (pe_cal c_lowest hr (by decide) rfl (pa_cons (pe_op op_mul (pv 3) (pv 1)) (pa_cons (pv 2) pa_nil))))) pa_nil)))), ?_⟩
    walk_at "rd"
    refine lcL0 (a := l) (xs := ts.map V.int) (fun R h => ⟨_, rfl, h⟩) (sqL hL) (by rw [List.length_map]; omega) (fun i y H' => ∃ t, ts[i]? = some t ∧ DT K H' y (pairD (lowest (t * s') b)))
      (fun i y H1 H2 ⟨t, h1, h2⟩ e => ⟨t, h1, h2.mono e⟩) ?_ ?_
    · intro i x H' Q' hx e q'
      rw [List.getElem?_map] at hx
      cases e1 : ts[i]? with
      | none =>
        rw [e1] at hx
        cases hx
      | some t =>
        rw [e1] at hx
        cases hx
        walk_at "rd"
        refine ⟨.inr ⟨by omega, by omega⟩, _, _, rfl, hb.1, hb.2, fun p H3 e3 h3 => q' _ H3 e3 ⟨t, e1, h3⟩⟩
    · intro D1 ys H' hD e h1 h2 h3
      refine ⟨D1, ys, rfl, .inl ⟨sqL h1, fun T hT => ?_⟩⟩
      have e2 : Ex H (upd H' T (.tup ys)) := e.trans (.new hT)
      refine q _ _ e2 (.tup (sqT upd_same) (DTs.of (by rw [h2, List.length_map, List.length_map]) fun i y hy => ?_))
      obtain ⟨t, h4, h5⟩ := h3 i y hy
      exact ⟨_, by rw [List.getElem?_map, h4]; rfl, h5.mono (.new hT)⟩
abbrev s_box_worth : Stmt := topS 40
theorem sc_box_worth : FnScope ["kinds", "place", "name", "count", "worths"] ["kinds", "place"] (defScope s_box_worth) := ⟨rfl, rfl, rfl, by decide +kernel, rfl, by decide +kernel, by decide +kernel⟩
def spWorth (K : PySem.W.Frag) : Sp := fun vs H Q _ => ∃ a xs, ∃ (ks : List Kd) (m j : Nat), vs = [.ref a, .int (j : Int)] ∧ SqT K H a xs ∧ DTs K H xs (ks.map Kd.d) ∧ (∀ k ∈ ks, Kd.ok m k) ∧ ks.length ≤ 4 ∧ j < m ∧ ∀ H', Ex H H' → Q (.int (worth ks j)) H'
theorem ok_box_worth (B : Bl mg) (D0 : Df K mg "_box_worth" s_box_worth) : Cal P w K mg base 1 "_box_worth" ["kinds", "place"] (spWorth K) := by
  refine D0.cal sc_box_worth (fun _ _ _ _ _ _ us hl => match us, hl with | [_, _], _ => rfl) (fun vs H Q E h => ?_) (fun f cdv A outer s H vs Q E hr h => ?_)
  · obtain ⟨a, xs, ks, m, j, rfl, _⟩ := h
    rfl
  · obtain ⟨a, xs, ks, m, j, rfl, hS, hs, hk, hl, hj, q⟩ := h
    refine ⟨_, (pss_one (ps_ret (pe_callB (r := rSum K) (cr_sum rfl) (by rfl) B.sum_ (by decide +kernel) (pa_cons (pe_lc (own := [("name", 2), ("count", 3), ("worths", 4)]) (g := gTup K 3 (gCons (gName 2) (gCons (gName 3) (gCons (gName 4) gNil)))) rfl sc_box_worth.nd (pi_tup (pv 0)) (blkOk_by (N := ["kinds", "place", "name", "count", "worths"]) (sc := defScope s_box_worth) (by decide +kernel)) (fun _ _ _ _ _ => (by exact (pg_tup rfl (pgs_cons (pg_name (i := 2) sc_box_worth.nd rfl (.inl rfl)) (pgs_cons (pg_name (i := 3) sc_box_worth.nd rfl (.inl rfl)) (pgs_cons (pg_name (i := 4) sc_box_worth.nd rfl (.inl rfl)) pgs_nil)))))) (fun _ _ _ _ _ => pts_nil) (fun _ _ _ _ _ => (pe_op op_mul (pv 3) (pe_ix (r := rIxT K) ix_tup (pv 4) (pv 1) (fun _ _ => rfl))))) pa_nil)))), ?_⟩
    walk_at "rd"
    have hxl := hs.lenM
    refine lcTf (a := a) (xs := xs) (fun R h => ⟨_, rfl, h⟩) hS (by omega) ((ks.map fun k => k.c * k.w.getD j 0).map V.int) (by rw [List.length_map, List.length_map, hxl]) ?_ ?_
    · intro i x z H' Q' hx hz' e q'
      obtain ⟨k, h1, h2⟩ := hs.getM hx
      rw [List.map_map, List.getElem?_map, h1] at hz'
      cases hz'
      have hok := hk k (List.mem_of_getElem? h1)
      obtain ⟨p, b, rfl, h3, h4⟩ := (h2.mono e.any).kd
      walk_at "rd"
      refine ⟨_, h3, rfl, _, _, rfl, _, _, rfl, _, _, rfl, rfl, ?_⟩
      walk_at "rd"
      have hjl : j < k.w.length := by rw [hok.l]; exact hj
      have hg : k.w.getD j 0 = k.w[j] := by rw [List.getD_eq_getElem?_getD, List.getElem?_eq_getElem hjl]; rfl
      refine ⟨b, _, (j : Int), .int (k.w.getD j 0), rfl, rfl, h4, atI_nat (by rw [List.getElem?_map, List.getElem?_eq_getElem hjl, hg]; rfl), ?_⟩
      walk_at "rd"
      have hc := hok.c
      exact ⟨.inl ⟨by omega, by omega⟩, q' H' .refl⟩
    · intro D1 H' hD e h1
      refine ⟨D1, _, rfl, sqL h1, ?_⟩
      exact q H' e
end
end K11

namespace K11
open PySem PySem.Spec PyProof.Rows L2 Z ZE
local macro_rules | `(tactic| walk_at "rd") => `(tactic| try simp only [cxOf, tSeq, tIfS, tRet, tRetN, tAsg, tDrop, tNext, tBreak, tCont, tNever, tPar, tPar3, tAug, gName, gTup, gCons, gNil, gSub, tVar, tC, tOp, tUn, tCB, tBM, tBM0, tCons, tNil, tTest, tB, tAnd, tOr, tNot, tAndV, tOrV, tNotV, tIf, tChain,
  tTup, tLst, tCall, tMeth, tSl, tPart, tNoPart, tM1, tFmt, tJs_nil, tJs_cons, tCKw, rI0, rI, rU, rEq, rNe, scal_ii, scal_ss, scal_bb, ipI, iStr, iTup, iList, iRng1, sFld, tFld, L2.start, List.getElem?_cons_zero, List.getElem?_cons_succ, List.set_cons_zero, List.set_cons_succ, Option.some.injEq, V.int.injEq, V.bl.injEq, V.str.injEq, V.ref.injEq,
  List.cons.injEq, exists_and_left, exists_eq_left', exists_eq_left, exists_eq_right, exists_eq_right', exists_eq', exists_eq, and_true, true_and, and_self, List.map_cons, List.map_nil, List.length_cons, List.length_nil, List.replicate_succ, List.replicate_zero, List.cons_append, List.nil_append, List.append_nil,
  Nat.add_sub_cancel, Nat.reduceAdd, Nat.reduceSub, if_true, if_false, ite_true, ite_false, Bool.not_true, Bool.not_false, Bool.true_eq_false, Bool.false_eq_true, reduceIte, reduceCtorEq, false_and, exists_false, or_false, false_or, decide_true, decide_false, wipe])

section
variable {P : Program} {w : World} {K : PySem.W.Frag} {mg : Str → Option Value} {base : Heap} {C : Addr}
abbrev s_check_number : Stmt := topS 19
theorem sc_check_number : FnScope ["value"] ["value"] (defScope s_check_number) := ⟨rfl, rfl, rfl, by decide +kernel, rfl, by decide +kernel, by decide +kernel⟩
def spCkNum (K : PySem.W.Frag) : Sp := fun vs H Q _ => ∃ v d, vs = [v] ∧ DT K H v d ∧ d.isNum = true ∧ Q .non H
theorem ok_check_number (c_is_number : Cal P w K mg base 2 "is_number" ["value"] (spIsNum K)) (D0 : Df K mg "check_number" s_check_number) : Cal P w K mg base 3 "check_number" ["value"] (spCkNum K) := by
  refine D0.cal sc_check_number (fun _ _ _ _ _ _ us hl => match us, hl with | [_], _ => rfl) (fun vs H Q E h => ?_) (fun f cdv A outer s H vs Q E hr h => ?_)
  · obtain ⟨v, d, rfl, _⟩ := h
    rfl
  · obtain ⟨v, d, rfl, hd, hn, q⟩ := h
    refine ⟨_, (pss_one (ps_if (pt_not (pt_val (pe_cal c_is_number hr (by decide) rfl (pa_cons (pv 0) pa_nil)))) (pss_one ps_never) pss_nil)), ?_⟩
    walk_at "rd"
    refine ⟨v, d, rfl, hd, ?_⟩
    rw [hn]
    exact ⟨true, rfl, iteF q⟩
abbrev s_Order_due : Stmt := inClass (topS 26) 5
theorem sc_Order_due : FnScope ["self", "boxes", "totals", "shares", "all_shares", "place", "name", "share", "refused"] ["self", "boxes"] (defScope s_Order_due) := ⟨rfl, rfl, rfl, by decide +kernel, rfl, by decide +kernel, by decide +kernel⟩
def spDue (K : PySem.W.Frag) (C : Addr) : Sp := fun vs H Q _ => ∃ x, ∃ (o : Od) (n : Int), vs = [.ref x, .int n] ∧ OrdAt K C H x o ∧ 0 ≤ n ∧ ∀ v H', Ex H H' → DT K H' v (dueD o n) → Q v H'
theorem ok_due (B : Bl mg) (c_check_number : Cal P w K mg base 3 "check_number" ["value"] (spCkNum K)) (c_box_worth : Cal P w K mg base 1 "_box_worth" ["kinds", "place"] (spWorth K)) (c_parts : Cal P w K mg base 2 "_parts" ["totals", "share", "all_shares"] (spParts K))
    (T : OrdC K C) (D0 : Dm K C "due" "Order.due" s_Order_due) : Mtd P w K mg base 4 C "due" ["self", "boxes"] (spDue K C) := by
  refine D0.mtd sc_Order_due (fun _ _ _ _ _ _ us hl => match us, hl with | [_, _], _ => rfl) (fun vs H Q E h => ?_) (fun f cdv A outer s H vs Q E hr h => ?_)
  · obtain ⟨x, o, n, rfl, _⟩ := h
    rfl
  · obtain ⟨x, o, n, rfl, ⟨dx, a, b, c, hx, hp⟩, hn, q⟩ := h
    refine ⟨_, (pss_cons (ps_expr (pe_cal c_check_number hr (by decide) rfl (pa_cons (pv 1) pa_nil)))
      (pss_cons (ps_set (i := 2) sc_Order_due.nd rfl (.inr rfl) (pe_lc (own := [("place", 5)]) (g := gName 5) rfl sc_Order_due.nd (pi_range1 rfl B.range_ (pa_cons (pe_callB (r := rLenQ K) call_len_seq (by rfl) B.len_ PySem.boot_len (pa_cons (pe_fld (pv 0) rfl) pa_nil)) pa_nil)) (blkOk_by (N := ["self", "boxes", "totals", "shares", "all_shares", "place", "name", "share", "refused"]) (sc := defScope s_Order_due) (by decide +kernel)) (fun _ _ _ _ _ => (pg_name (i := 5) sc_Order_due.nd rfl (.inl rfl))) (fun _ _ _ _ _ => pts_nil) (fun _ _ _ _ _ => (pe_op op_mul (pv 1) (pe_cal c_box_worth hr (by decide) rfl (pa_cons (pe_fldK (K := K) (by rfl) (pv 0) (by rfl)) (pa_cons (pv 5) pa_nil)))))))
      (pss_cons (ps_setLc (i := 3) (own := [("name", 6), ("share", 7), ("refused", 8)]) (g := gTup K 3 (gCons (gName 6) (gCons (gName 7) (gCons (gName 8) gNil)))) rfl sc_Order_due.nd rfl rfl (sw_true rfl rfl rfl (by decide +kernel)) (pi_tup (pe_fld (pv 0) rfl)) (blkOk_by (N := ["self", "boxes", "totals", "shares", "all_shares", "place", "name", "share", "refused"]) (sc := defScope s_Order_due) (by decide +kernel)) (fun _ _ _ _ _ => (by exact (pg_tup rfl (pgs_cons (pg_name (i := 6) sc_Order_due.nd rfl (.inl rfl)) (pgs_cons (pg_name (i := 7) sc_Order_due.nd rfl (.inl rfl)) (pgs_cons (pg_name (i := 8) sc_Order_due.nd rfl (.inl rfl)) pgs_nil)))))) (fun _ _ _ _ _ => pts_nil) (fun _ _ _ _ _ => (pv 7)))
      (pss_cons (ps_set (i := 4) sc_Order_due.nd rfl (.inr rfl) (pe_callB (r := rSum K) (cr_sum rfl) (by rfl) B.sum_ (by decide +kernel) (pa_cons (pv 3) pa_nil)))
      (pss_one (ps_ret (pe_callTy (r := rTupOf K) call_tuple_of (by rfl) B.tuple_ (by decide +kernel) (pa_cons (pe_lc (own := [("share", 7)]) (g := gName 7) rfl sc_Order_due.nd (pi_list (pv 3)) (blkOk_by (N := ["self", "boxes", "totals", "shares", "all_shares", "place", "name", "share", "refused"]) (sc := defScope s_Order_due) (by decide +kernel)) (fun _ _ _ _ _ => (pg_name (i := 7) sc_Order_due.nd rfl (.inl rfl))) (fun _ _ _ _ _ => pts_nil) (fun _ _ _ _ _ => (pe_cal c_parts hr (by decide) rfl (pa_cons (pv 2) (pa_cons (pv 7) (pa_cons (pv 4) pa_nil)))))) pa_nil)))))))), ?_⟩
    walk_at "rd"
    refine ⟨.int n, .int n, rfl, .int n, (show D.isNum (.int n) = true from decide_eq_true hn), ?_⟩
    have ho := hp.ok
    walk_at "rd"
    have hm1 := ho.m1
    have hp1 := ho.p1
    have hk1 := ho.k1
    refine lcRf o.ms.length (fun R h => ⟨_, rfl, x, C, dx, _, _, rfl, hx, T.cl, T.nm, fl_m _ _ _ _, a, _, rfl, .inr hp.m, by rw [List.length_map]; exact h⟩) (by omega) (((List.range o.ms.length).map fun j => n * worth o.ks j).map V.int)
      (by rw [List.length_map, List.length_map, List.length_range]) ?_ ?_
    · intro i z H' Q' hz e q'
      rw [List.map_map, List.getElem?_map] at hz
      have hi : i < o.ms.length := by
        cases e1 : (List.range o.ms.length)[i]? with
        | none =>
          rw [e1] at hz
          cases hz
        | some y =>
          have h1 := (List.getElem?_eq_some_iff.mp e1).1
          rwa [List.length_range] at h1
      rw [List.getElem?_range hi] at hz
      cases hz
      have hpe := hp.mono e.any
      obtain ⟨kx, k1, k2⟩ := hpe.k
      walk_at "rd"
      refine ⟨C, dx, _, e.get hx, T.cl, T.nk, _, fl_k _ _ _ _, ?_⟩
      refine ⟨b, kx, o.ks, o.ms.length, i, rfl, k1, k2, ho.k2, ho.k1.2, hi, fun H3 e3 => ?_⟩
      have hb := worth_bound ho.k2 ho.k1.2 i
      walk_at "rd"
      exact ⟨.inr ⟨by omega, by omega⟩, q' H3 e3⟩
    · intro D1 H1 hD1 e1 h1
      have hp1' := hp.mono e1.any
      obtain ⟨px, p1, p2⟩ := hp1'.p
      have hpl := p2.lenM
      refine lcTf (a := c) (xs := px) (fun R h => ⟨_, rfl, x, C, dx, _, _, rfl, e1.get hx, T.cl, T.np, fl_p _ _ _ _, h⟩) p1 (by omega) ((o.ps.map Pn.s).map V.int) (by rw [List.length_map, List.length_map, hpl]) ?_ ?_
      · intro i y z H' Q' hy hz e q'
        obtain ⟨p, h2, h3⟩ := p2.getM hy
        rw [List.map_map, List.getElem?_map, h2] at hz
        cases hz
        obtain ⟨p', b', rfl, h4, h5⟩ := (h3.mono e.any).pn
        walk_at "rd"
        refine ⟨_, h4, rfl, _, _, rfl, _, _, rfl, _, _, rfl, rfl, ?_⟩
        walk_at "rd"
        exact q' H' .refl
      · intro D2 H2 hD2 e2 h2
        refine ⟨D2, o.ps.map Pn.s, rfl, sqL h2, ?_⟩
        have hsb := shares_bound (fun p hp => (ho.p3 p hp).s) ⟨by omega, hp1.2⟩
        have hne : D1 ≠ D2 := fun z => by
          subst z
          rw [h1] at hD2
          cases hD2
        refine lcL0 (a := D2) (xs := (o.ps.map Pn.s).map V.int) (fun R h => ⟨_, rfl, h⟩) (sqL h2) (by rw [List.length_map, List.length_map]; omega)
          (fun i y H' => ∃ p, o.ps[i]? = some p ∧ DT K H' y (.tup ((dueP o n p).map pairD))) (fun i y H1 H2 ⟨t, h1, h2⟩ e => ⟨t, h1, h2.mono e⟩) ?_ ?_
        · intro i y H' Q' hy e q'
          rw [List.map_map, List.getElem?_map] at hy
          cases e3 : o.ps[i]? with
          | none =>
            rw [e3] at hy
            cases hy
          | some p =>
            rw [e3] at hy
            cases hy
            have hps := (ho.p3 p (List.mem_of_getElem? e3)).s
            walk_at "rd"
            refine ⟨D1, _, p.s, shares o.ps, rfl, e.get (e2.get h1), by rw [List.length_map, List.length_range]; omega, hps, ⟨by omega, by omega⟩, fun v H3 e4 h4 => q' v H3 e4 ⟨p, e3, ?_⟩⟩
            rw [List.map_map] at h4
            have eq : (dueP o n p).map Z.pairD = (List.range o.ms.length).map ((fun t => Z.pairD (lowest (t * p.s) (shares o.ps))) ∘ fun j => n * worth o.ks j) := by
              rw [dueP, List.map_map]
              rfl
            rw [eq]
            exact h4
        · intro D3 ys H3 hD3 e3 h3 h4 h5
          refine ⟨D3, ys, rfl, .inl ⟨sqL h3, fun T' hT => ?_⟩⟩
          have e4 : Ex H (upd H3 T' (.tup ys)) := ((e1.trans e2).trans e3).trans (.new hT)
          refine q _ _ e4 (.tup (sqT upd_same) (DTs.of (by rw [h4, List.length_map, List.length_map, List.length_map]) fun i y hy => ?_))
          obtain ⟨p, h6, h7⟩ := h5 i y hy
          exact ⟨_, by rw [List.getElem?_map, h6]; rfl, h7.mono (.new hT)⟩
end
end K11

namespace K11
open PySem PySem.Spec PyProof.Rows L2 Z ZE
local macro_rules | `(tactic| walk_at "rd") => `(tactic| try simp only [cxOf, tSeq, tIfS, tRet, tRetN, tAsg, tDrop, tNext, tBreak, tCont, tNever, tPar, tPar3, tAug, gName, gTup, gCons, gNil, gSub, tVar, tC, tOp, tUn, tCB, tBM, tBM0, tCons, tNil, tTest, tB, tAnd, tOr, tNot, tAndV, tOrV, tNotV, tIf, tChain,
  tTup, tLst, tCall, tMeth, tSl, tPart, tNoPart, tM1, tFmt, tJs_nil, tJs_cons, tCKw, rI0, rI, rU, rEq, rNe, scal_ii, scal_ss, scal_bb, ipI, iStr, iTup, iList, iRng1, sFld, tFld, L2.start, List.getElem?_cons_zero, List.getElem?_cons_succ, List.set_cons_zero, List.set_cons_succ, Option.some.injEq, V.int.injEq, V.bl.injEq, V.str.injEq, V.ref.injEq,
  List.cons.injEq, exists_and_left, exists_eq_left', exists_eq_left, exists_eq_right, exists_eq_right', exists_eq', exists_eq, and_true, true_and, and_self, List.map_cons, List.map_nil, List.length_cons, List.length_nil, List.replicate_succ, List.replicate_zero, List.cons_append, List.nil_append, List.append_nil,
  Nat.add_sub_cancel, Nat.reduceAdd, Nat.reduceSub, if_true, if_false, ite_true, ite_false, Bool.not_true, Bool.not_false, Bool.true_eq_false, Bool.false_eq_true, reduceIte, reduceCtorEq, false_and, exists_false, or_false, false_or, decide_true, decide_false, wipe])

theorem Gr.fresh {m : Addr → Prop} {a : Addr} {H H1 H2 : Hp} (e : Gr m H H1) (h : H a = none) (f : Gr (· = a) H1 H2) : Gr m H H2 := fun b o q => by
  rcases e b o q with z | ⟨h1, o1, h2, h3⟩
  · refine .inl (f.at z fun hb => ?_)
    subst hb
    rw [h] at q
    cases q
  · refine .inr ⟨h1, o1, h2, f.at h3 fun hb => ?_⟩
    subst hb
    rw [h] at q
    cases q
section
variable {K : PySem.W.Frag} {g : TG} {tb : TS} {tl : TE} {ta : TA} {Dn : Ends} {σ : L2.St} {H : Hp} {a : Addr} {xs : List V}
/-- for i in range(e), e may change the heap -/
theorem forRd (C : Int → Hp → Prop) (ht : ∀ R : List V → Hp → Prop, (∀ n H1, C n H1 → R [.int n] H1) → ta σ H R) (hC : ∀ n H1, C n H1 → 0 ≤ n ∧ n ≤ 100000) (Pv : Int → Nat → L2.St → Hp → Prop) (h0 : ∀ n H1, C n H1 → Pv n 0 σ H1)
    (hs : ∀ (n : Int) (i : Nat) σ' H', (i : Int) < n → Pv n i σ' H' → g (.int (i : Int)) σ' H' fun σ2 H2 => tb { Dn with nx := Pv n (i + 1), ct := Pv n (i + 1), bk := Dn.nx } σ2 H2)
    (hd : ∀ n σ' H', 0 ≤ n → Pv n n.toNat σ' H' → Dn.nx σ' H') : tFor (iRng1 ta) g tb Dn σ H :=
  ht _ fun n H1 c => by
    have hn := hC n H1 c
    exact ⟨n, rfl, by omega, by omega, for_range (lo := 0) (n := n.toNat) (Pv n) (h0 n H1 c) (fun i σ' H' hi p => by
      have e0 : (0 : Int) + (i : Int) = (i : Int) := Int.zero_add _
      rw [e0]
      exact hs n i σ' H' (by omega) p) (hd n · · hn.1)⟩
end
theorem noPy {d m : Int} (h1 : 0 < m) (h2 : m ≤ 1000000000000000000000000000000) : Builtin.divisionGoesByPylong d m = false := by
  refine PyProof.noPylong_of_log2 ?_
  have h0 : m.natAbs ≠ 0 := by omega
  rw [Nat.log2_lt h0]
  exact Nat.lt_of_lt_of_le (show m.natAbs < 2 ^ 100 by
    have e : (2 : Nat) ^ 100 = 1267650600228229401496703205376 := by decide +kernel
    rw [e]
    omega) (Nat.pow_le_pow_right (by decide) (by decide))
def Pool (H : Hp) (a : Addr) : Prop := ∃ x d c : Int, H a = some (.lst [.int x, .int d, .int c])
section
variable {P : Program} {w : World} {K : PySem.W.Frag} {mg : Str → Option Value} {base : Heap}
abbrev s_law_draw : Stmt := topS 46
theorem sc_law_draw : FnScope ["_law_pool_here", "_law_many", "_law_seed", "_law_digit"] ["_law_pool_here", "_law_many"] (defScope s_law_draw) := ⟨rfl, rfl, rfl, by decide +kernel, rfl, by decide +kernel, by decide +kernel⟩
def spDraw : Sp := fun vs H Q _ => ∃ a, ∃ m : Int, vs = [.ref a, .int m] ∧ Pool H a ∧ 0 < m ∧ m ≤ 1000000000000000000000000000000 ∧ ∀ r H', (0 ≤ r ∧ r < m) → Gr (· = a) H H' → Pool H' a → Q (.int r) H'
theorem ok_law_draw (B : Bl mg) (D0 : Df K mg "_law_draw" s_law_draw) : Cal P w K mg base 1 "_law_draw" ["_law_pool_here", "_law_many"] spDraw := by
  refine D0.cal sc_law_draw (fun _ _ _ _ _ _ us hl => match us, hl with | [_, _], _ => rfl) (fun vs H Q E h => ?_) (fun f cdv A outer s H vs Q E hr h => ?_)
  · obtain ⟨a, m, rfl, _⟩ := h
    rfl
  · obtain ⟨a, m, rfl, ⟨x, d, c, hp⟩, h1, h2, q⟩ := h
    refine ⟨_, (pss_cons (ps_asg (pe_op op_add (pe_ix (r := rIxL K) ix_list (pv 0) pe_int (fun _ _ => rfl)) pe_int) (pg_sub (pv 0) pe_int set_list))
      (pss_cons (ps_set (i := 2) sc_law_draw.nd rfl (.inl rfl) (pe_op op_mod (pe_callTy call_int1 (by rfl) B.int_ (by decide +kernel) (pa_cons (pe_op op_add (pe_op op_add (pe_op op_mul (pe_ix (r := rIxL K) ix_list (pv 0) pe_int (fun _ _ => rfl)) pe_int) (pe_op op_mul (pe_ix (r := rIxL K) ix_list (pv 0) pe_int (fun _ _ => rfl)) pe_int)) pe_int) pa_nil)) pe_int))
      (pss_cons (ps_asg (pv 2) (pg_sub (pv 0) pe_int set_list))
      (pss_cons (ps_if (pt_cmpR op_gt (pe_ix (r := rIxL K) ix_list (pv 0) pe_int (fun _ _ => rfl)) pe_int (nomark _)) (pss_cons (ps_asg (pe_callB call_divmodW (by rfl) B.divmod_ (by decide +kernel) (pa_cons (pe_ix (r := rIxL K) ix_list (pv 0) pe_int (fun _ _ => rfl)) (pa_cons (pv 1) pa_nil))) (pg_tup rfl (pgs_cons (pg_sub (pv 0) pe_int set_list) (pgs_cons (pg_name (i := 3) sc_law_draw.nd rfl (.inl rfl)) pgs_nil))))
      (pss_one (ps_ret (pv 3)))) pss_nil)
      (pss_one (ps_ret (pe_op op_mod (pe_callTy call_int1 (by rfl) B.int_ (by decide +kernel) (pa_cons (pe_op op_fdiv (pv 2) pe_int) pa_nil)) (pv 1)))))))), ?_⟩
    walk_at "rd"
    refine ⟨a, _, 2, _, rfl, rfl, sqL hp, atI_nat (j := 2) rfl, c, rfl, ?_⟩
    refine ⟨a, _, 2, 2, rfl, rfl, hp, rfl, ?_⟩
    refine ⟨a, _, 0, _, rfl, rfl, sqL upd_same, atI_nat (j := 0) rfl, x, rfl, .inr ⟨by omega, by omega⟩, ?_⟩
    refine ⟨a, _, 2, _, rfl, rfl, sqL upd_same, atI_nat (j := 2) rfl, c + 1, rfl, .inr ⟨by omega, by omega⟩, by omega, ?_⟩
    generalize hz : (x * 6364136223846793005 + (c + 1) * 1442695040888963407 + 977) % 618970019642690137449562111 = z
    refine ⟨a, _, 0, 0, rfl, rfl, upd_same, rfl, ?_⟩
    refine ⟨a, _, 1, _, rfl, rfl, sqL upd_same, atI_nat (j := 1) rfl, d, rfl, ?_⟩
    rw [upd_upd]
    have G1 : Gr (· = a) H (upd H a (.lst [.int z, .int d, .int (c + 1)])) := Gr.refl.put hp (.inr rfl)
    by_cases hd : 0 < d
    · rw [decide_eq_true hd]
      refine iteT ?_
      refine ⟨a, _, 1, _, rfl, rfl, sqL upd_same, atI_nat (j := 1) rfl, d, m, ⟨rfl, rfl⟩, ⟨h1, noPy h1 h2⟩, fun p hf => ?_⟩
      refine ⟨_, sqT upd_same, rfl, _, _, rfl, ?_⟩
      have hpa : a ≠ p := fun e => by
        subst e
        rw [upd_same] at hf
        cases hf
      refine ⟨a, _, 1, 1, rfl, rfl, (by rw [upd_ne hpa]; exact upd_same), rfl, _, _, rfl, rfl, ?_⟩
      refine q _ _ ⟨Int.emod_nonneg _ (by omega), Int.emod_lt_of_pos _ h1⟩ ((G1.alloc hf).put (by rw [upd_ne hpa]; exact upd_same) (.inr rfl)) ⟨_, _, _, upd_same⟩
    · rw [decide_eq_false hd]
      refine iteF ⟨⟨by omega, by omega⟩, h1, ?_⟩
      exact q _ _ ⟨Int.emod_nonneg _ (by omega), Int.emod_lt_of_pos _ h1⟩ G1 ⟨_, _, _, upd_same⟩
end
end K11

namespace K11
open PySem PySem.Spec PyProof.Rows L2 Z ZE
local macro_rules | `(tactic| walk_at "rd") => `(tactic| try simp only [cxOf, tSeq, tIfS, tRet, tRetN, tAsg, tDrop, tNext, tBreak, tCont, tNever, tPar, tPar3, tAug, gName, gTup, gCons, gNil, gSub, tVar, tC, tOp, tUn, tCB, tBM, tBM0, tCons, tNil, tTest, tB, tAnd, tOr, tNot, tAndV, tOrV, tNotV, tIf, tChain,
  tTup, tLst, tCall, tMeth, tSl, tPart, tNoPart, tM1, tFmt, tJs_nil, tJs_cons, tCKw, rI0, rI, rU, rEq, rNe, scal_ii, scal_ss, scal_bb, ipI, iStr, iTup, iList, iRng1, sFld, tFld, L2.start, List.getElem?_cons_zero, List.getElem?_cons_succ, List.set_cons_zero, List.set_cons_succ, Option.some.injEq, V.int.injEq, V.bl.injEq, V.str.injEq, V.ref.injEq,
  List.cons.injEq, exists_and_left, exists_eq_left', exists_eq_left, exists_eq_right, exists_eq_right', exists_eq', exists_eq, and_true, true_and, and_self, List.map_cons, List.map_nil, List.length_cons, List.length_nil, List.replicate_succ, List.replicate_zero, List.cons_append, List.nil_append, List.append_nil,
  Nat.add_sub_cancel, Nat.reduceAdd, Nat.reduceSub, if_true, if_false, ite_true, ite_false, Bool.not_true, Bool.not_false, Bool.true_eq_false, Bool.false_eq_true, reduceIte, reduceCtorEq, false_and, exists_false, or_false, false_or, decide_true, decide_false, wipe])

/-! ### words -/
def Nm (n : Nat) (w : Str) : Prop := ∃ c r, w.cps.toList = c :: r ∧ lower c = true ∧ (∀ x ∈ r, lowdig x = true) ∧ r.length + 1 ≤ n
theorem Nm.len {n : Nat} {w : Str} (h : Nm n w) : w.length ≤ n ∧ 1 ≤ w.length := by
  obtain ⟨c, r, h1, _, _, h4⟩ := h
  have e := congrArg List.length h1
  rw [Array.length_toList, List.length_cons] at e
  have e2 : w.length = w.cps.size := rfl
  omega
theorem Nm.ok {w : Str} (h : Nm 8 w) : nameOk w = true := by
  have h8 := h.len.1
  obtain ⟨c, r, h1, h2, h3, h4⟩ := h
  rw [nameOk_iff h1, decide_eq_true h8, h2, h1]
  simp only [Bool.true_and, List.all_cons, Bool.and_eq_true, List.all_eq_true]
  refine ⟨?_, h3⟩
  unfold lowdig
  rw [h2]
  rfl
theorem Nm.of {w : Str} (h : nameOk w = true) : Nm 8 w := by
  have hl := nameOk_len h
  have e2 : w.length = w.cps.size := rfl
  cases e : w.cps.toList with
  | nil =>
    have e3 := congrArg List.length e
    rw [Array.length_toList, List.length_nil] at e3
    omega
  | cons c r =>
    rw [nameOk_iff e, e] at h
    simp only [Bool.and_eq_true, decide_eq_true_eq, List.all_cons, List.all_eq_true] at h
    have e3 := congrArg List.length e
    rw [Array.length_toList, List.length_cons] at e3
    exact ⟨c, r, e, h.1.2, h.2.2, by omega⟩
theorem Nm.up {n m : Nat} {w : Str} (h : Nm n w) (k : n ≤ m) : Nm m w := by
  obtain ⟨c, r, h1, h2, h3, h4⟩ := h
  exact ⟨c, r, h1, h2, h3, by omega⟩
theorem app_list (a b : Str) : (a ++ b).cps.toList = a.cps.toList ++ b.cps.toList := by
  show (a.cps ++ b.cps).toList = _
  exact Array.toList_append
theorem Nm.snoc {n : Nat} {w : Str} {c : Nat} (h : Nm n w) (hc : lowdig c = true) : Nm (n + 1) (w ++ ⟨#[c]⟩) := by
  obtain ⟨d, r, h1, h2, h3, h4⟩ := h
  refine ⟨d, r ++ [c], ?_, h2, fun x hx => ?_, ?_⟩
  · rw [app_list, h1]
    rfl
  · rcases List.mem_append.mp hx with hx | hx
    · exact h3 x hx
    · rw [List.mem_singleton.mp hx]
      exact hc
  · rw [List.length_append]
    show r.length + 1 + 1 ≤ n + 1
    omega
theorem cut8 (z : Str) : (cutS z none (some 8)).cps.toList = z.cps.toList.take 8 := by
  unfold cutS
  rw [show HT.sIx z.length z.length (some 8) = min 8 z.length from HT.sIx_nat z.length z.length 8, HT.sIx_none, List.drop_zero, Nat.sub_zero]
  show z.cps.toList.take (min 8 z.length) = _
  by_cases h : 8 ≤ z.length
  · rw [Nat.min_eq_left h]
  · have e : z.cps.toList.length = z.length := Array.length_toList
    rw [Nat.min_eq_right (by omega), List.take_of_length_le (by omega), List.take_of_length_le (by omega)]
theorem cut1 (z : Str) : (cutS z (some 1) none).cps.toList = z.cps.toList.drop 1 := by
  unfold cutS
  rw [show HT.sIx z.length 0 (some 1) = min 1 z.length from HT.sIx_nat z.length 0 1, HT.sIx_none]
  show (z.cps.toList.drop (min 1 z.length)).take (z.length - min 1 z.length) = _
  have e : z.cps.toList.length = z.length := Array.length_toList
  by_cases h : 1 ≤ z.length
  · rw [Nat.min_eq_left h, List.take_of_length_le (by rw [List.length_drop]; omega)]
  · have e0 : z.cps.toList = [] := List.length_eq_zero_iff.mp (by omega)
    rw [e0]
    simp
theorem Nm.cut8 {n : Nat} {w : Str} (h : Nm n w) : Nm 8 (cutS w none (some 8)) := by
  obtain ⟨c, r, h1, h2, h3, h4⟩ := h
  refine ⟨c, r.take 7, ?_, h2, fun x hx => h3 x (List.mem_of_mem_take hx), ?_⟩
  · rw [K11.cut8, h1]
    rfl
  · rw [List.length_take]
    omega
theorem str_ext {a b : Str} (h : a.cps.toList = b.cps.toList) : a = b := by
  cases a
  cases b
  congr 1
  exact Array.toList_inj.mp h
def letr (c : Nat) (w : Str) : Str := ⟨#[c]⟩ ++ cutS w (some 1) none
theorem letr_list (c : Nat) (w : Str) : (letr c w).cps.toList = c :: w.cps.toList.drop 1 := by
  unfold letr
  rw [app_list, cut1]
  rfl
theorem Nm.letr {n : Nat} {w : Str} {c : Nat} (h : Nm n w) (hc : lower c = true) : Nm n (letr c w) := by
  obtain ⟨d, r, h1, h2, h3, h4⟩ := h
  refine ⟨c, r, ?_, hc, h3, h4⟩
  rw [letr_list, h1]
  rfl
theorem letr_letr (c d : Nat) (w : Str) : K11.letr c (K11.letr d w) = K11.letr c w := str_ext (by rw [letr_list, letr_list, letr_list]; rfl)
theorem letters_at {i c : Nat} (h : (Str.ofString "abcdefghijklmnopqrstuvwxyz").cps.toList[i]? = some c) : c = 97 + i ∧ i < 26 := by
  have e : (Str.ofString "abcdefghijklmnopqrstuvwxyz").cps.toList = (List.range 26).map fun i => 97 + i := by decide +kernel
  rw [e, List.getElem?_map] at h
  have hi : i < 26 := by
    cases q : (List.range 26)[i]? with
    | none =>
      rw [q] at h
      cases h
    | some y =>
      have h1 := (List.getElem?_eq_some_iff.mp q).1
      rwa [List.length_range] at h1
  rw [List.getElem?_range hi] at h
  cases h
  exact ⟨rfl, hi⟩
/-- a place in a list of known length -/
theorem at_of {α : Type} {xs : List α} {r : Int} {n : Nat} (hn : xs.length = n) (h0 : 0 ≤ r) (h1 : r < n) : ∃ v, v ∈ xs ∧ atI xs r = some v := by
  have hr : r.toNat < xs.length := by omega
  refine ⟨xs[r.toNat], List.getElem_mem hr, ?_⟩
  have e := atI_nat (List.getElem?_eq_getElem hr)
  rwa [Int.toNat_of_nonneg h0] at e
theorem at_last {ts : List Str} (h : ts ≠ []) : ∃ s ∈ ts, atI (ts.map V.str) (-1) = some (.str s) := by
  have hl : 0 < ts.length := List.length_pos_iff.mpr h
  refine ⟨ts[ts.length - 1], List.getElem_mem _, ?_⟩
  unfold atI ixN
  rw [if_neg (by omega), List.length_map, if_pos (by omega)]
  show (ts.map V.str)[(-1 + (ts.length : Int)).toNat]? = _
  have e : (-1 + (ts.length : Int)).toNat = ts.length - 1 := by omega
  rw [e, List.getElem?_map, List.getElem?_eq_getElem (by omega)]
  rfl
theorem shapedL_strs {ss : List Str} (h : ∀ s ∈ ss, PyData.strOk s = true) : SeqAt.shaped (.list (ss.map PyData.str)) = true := by
  unfold SeqAt.shaped
  rw [Bool.and_eq_true]
  refine ⟨by simp only [PyData.canLay0]; exact lay_strs h, decide_eq_true ?_⟩
  simp only [PyData.depth]
  rw [depth_strs]
  decide
/-- four words in a list of three -/
theorem few {ts : List Str} {w : Str} (hl : ts.length ≤ 3) (h : ∀ j < 4, letr (97 + j) w ∈ ts) : False := by
  have key : ∀ j < 4, 97 + j ∈ ts.map fun s => s.cps.toList.headD 0 := fun j hj => List.mem_map.mpr ⟨_, h j hj, by rw [letr_list]; rfl⟩
  generalize e : ts.map (fun s : Str => s.cps.toList.headD 0) = hs at key
  have hl2 : hs.length ≤ 3 := by rw [← e, List.length_map]; exact hl
  have k0 := key 0 (by omega)
  have k1 := key 1 (by omega)
  have k2 := key 2 (by omega)
  have k3 := key 3 (by omega)
  match hs, hl2 with
  | [], _ => cases k0
  | [a], _ =>
    simp only [List.mem_cons, List.not_mem_nil, or_false] at k0 k1
    omega
  | [a, b], _ =>
    simp only [List.mem_cons, List.not_mem_nil, or_false] at k0 k1 k2
    omega
  | [a, b, c], _ =>
    simp only [List.mem_cons, List.not_mem_nil, or_false] at k0 k1 k2 k3
    omega
  | _ :: _ :: _ :: _ :: _, h => simp at h
section
variable {P : Program} {w : World} {K : PySem.W.Frag} {mg : Str → Option Value} {base : Heap}
abbrev s_law_name : Stmt := topS 47
theorem sc_law_name : FnScope ["_law_pool_here", "_law_taken", "_law_way", "_law_word", "_law_turn", "_law_sign"] ["_law_pool_here", "_law_taken"] (defScope s_law_name) := ⟨rfl, rfl, rfl, by decide +kernel, rfl, by decide +kernel, by decide +kernel⟩
def spLName : Sp := fun vs H Q _ => ∃ a t, ∃ ts : List Str, vs = [.ref a, .ref t] ∧ Pool H a ∧ H t = some (.lst (ts.map V.str)) ∧ ts.length ≤ 3 ∧ (∀ s ∈ ts, nameOk s = true) ∧ ∀ z H', nameOk z = true → z ∉ ts → Gr (· = a) H H' → Pool H' a → Q (.str z) H'
theorem ok_law_name (B : Bl mg) (c_law_draw : Cal P w K mg base 1 "_law_draw" ["_law_pool_here", "_law_many"] spDraw) (D0 : Df K mg "_law_name" s_law_name) : Cal P w K mg base 2 "_law_name" ["_law_pool_here", "_law_taken"] spLName := by
  refine D0.cal sc_law_name (fun _ _ _ _ _ _ us hl => match us, hl with | [_, _], _ => rfl) (fun vs H Q E h => ?_) (fun f cdv A outer s H vs Q E hr h => ?_)
  · obtain ⟨a, t, ts, rfl, _⟩ := h
    rfl
  · obtain ⟨a, t, ts, rfl, hp, ht, htl, hts, q⟩ := h
    refine ⟨_, (pss_cons (ps_par (i := 2) (j := 3) rfl sc_law_name.nd rfl rfl (by decide) rfl rfl (pa_cons (pe_cal c_law_draw hr (by decide) rfl (pa_cons (pv 0) (pa_cons pe_int pa_nil))) (pa_cons (pe_ix ix_str pe_str (pe_cal c_law_draw hr (by decide) rfl (pa_cons (pv 0) (pa_cons pe_int pa_nil))) (fun _ _ => rfl)) pa_nil)) (by rfl))
      (pss_cons (ps_if (pt_cmpR op_eq (pv 2) pe_int (nomark _)) (pss_one (ps_set (i := 3) sc_law_name.nd rfl (.inl rfl) (pe_ix (r := rIxL K) ix_list (pe_lst (pa_cons pe_str (pa_cons pe_str (pa_cons pe_str (pa_cons pe_str (pa_cons pe_str (pa_cons pe_str (pa_cons pe_str (pa_cons pe_str pa_nil))))))))) (pe_cal c_law_draw hr (by decide) rfl (pa_cons (pv 0) (pa_cons pe_int pa_nil))) (fun _ _ => rfl)))) pss_nil)
      (pss_cons (ps_if (PW.pt (pw_and (pt_cmpR op_eq (pv 2) pe_int (nomark _)) (pw_and1 (pt_cmpR (r := rNeD K) (op_neD hr.units) (pv 1) (pe_lst pa_nil) (nomark _))))) (pss_one (ps_set (i := 3) sc_law_name.nd rfl (.inl rfl) (pe_slice sl_str (pe_op op_add_str (pe_ix (r := rIxL K) ix_list (pv 1) (pe_un un_neg pe_int) (fun _ _ => rfl)) (pe_ix ix_str pe_str (pe_cal c_law_draw hr (by decide) rfl (pa_cons (pv 0) (pa_cons pe_int pa_nil))) (fun _ _ => rfl))) po_none (po_some pe_int)))) pss_nil)
      (pss_cons (ps_if (pt_cmpR op_gt (pv 2) pe_int (nomark _)) (pss_one (ps_for PassesOwn.never rfl (pi_range1 rfl B.range_ (pa_cons (pe_cal c_law_draw hr (by decide) rfl (pa_cons (pv 0) (pa_cons pe_int pa_nil))) pa_nil)) (pg_name (i := 4) sc_law_name.nd rfl (.inl rfl)) (pss_one (ps_set (i := 3) sc_law_name.nd rfl (.inl rfl) (pe_op op_add_str (pv 3) (pe_ix ix_str pe_str (pe_cal c_law_draw hr (by decide) rfl (pa_cons (pv 0) (pa_cons pe_int pa_nil))) (fun _ _ => rfl))))))) pss_nil)
      (pss_cons (ps_for PassesOwn.never rfl (pi_str pe_str) (pg_name (i := 5) sc_law_name.nd rfl (.inl rfl)) (pss_one (ps_if (pt_cmpR (r := rIn K false) op_in_seq (pv 3) (pv 1) (by rfl)) (pss_one (ps_set (i := 3) sc_law_name.nd rfl (.inl rfl) (pe_op op_add_str (pv 5) (pe_slice sl_str (pv 3) (po_some pe_int) po_none)))) pss_nil)))
      (pss_one (ps_ret (pv 3)))))))), ?_⟩
    have hta : ¬ t = a := fun e => by
      obtain ⟨x, d, c, hp⟩ := hp
      rw [e, hp] at ht
      match ts with
      | [] => cases ht
      | s :: r => cases ht
    -- the last loop, from any word
    have fin : ∀ (w1 : Int) (z : Str) (y : Option V) (H' : Hp), Nm 8 z → Gr (· = a) H H' → Pool H' a → tFor (iStr (tC (.str "abcdefghijklmnopqrstuvwxyz"))) (gName 5) (tIfS (tTest (tOp (rIn K false) (tVar 3) (tVar 1))) (tAsg (tOp (fun x y H Q => ∃ i, x = .str i ∧ ∃ x, y = .str x ∧ i.length + x.length ≤ sizeLine ∧ Q (.str (i ++ x)) H) (tVar 5) (tSl rSlS (tVar 3) (tPart (tC (.int 1))) tNoPart)) (gName 3)) tNext)
        { nx := tRet (tVar 3) { nx := fun x H' => Q V.non H', rt := Q }, rt := Q } [some (.ref a), some (.ref t), some (.int w1), some (.str z), y, none] H' := by
      intro w1 z y H' hz e hp
      refine forSt (fun R h => h) (fun i σ' H2 => ∃ z y2, σ' = [some (.ref a), some (.ref t), some (.int w1), some (.str z), y, y2] ∧ H2 = H' ∧ Nm 8 z ∧ (z ∉ ts ∨ ∀ j, j < i → letr (97 + j) z ∈ ts)) ⟨z, _, rfl, rfl, hz, .inr fun j h => absurd h (Nat.not_lt_zero j)⟩ ?_ ?_
      · rintro i c σ' H2 hc ⟨z, y2, rfl, rfl, hz, hor⟩
        obtain ⟨rfl, hi⟩ := letters_at hc
        walk_at "rd"
        refine ⟨t, _, rfl, .inl (sqL (e.at ht hta)), rfl, Z.flat_strs _, ?_⟩
        walk_at "rd"
        rw [inV_strs]
        by_cases hz2 : z ∈ ts
        · rw [decide_eq_true hz2]
          refine iteT ?_
          have hz8 := hz.len.1
          refine ⟨z, rfl, small (by omega), ?_⟩
          walk_at "rd"
          have hl : (Str.length ⟨#[97 + i]⟩) = 1 := rfl
          have hc := cutS_length z (some 1) none
          refine ⟨small (by omega), letr (97 + i) z, _, ⟨rfl, rfl⟩, hz.letr (by unfold lower; rw [decide_eq_true (by omega), decide_eq_true (by omega)]; rfl), ?_⟩
          by_cases h3 : letr (97 + i) z ∈ ts
          · refine .inr fun j hj => ?_
            rw [letr_letr]
            by_cases hji : j = i
            · rw [hji]
              exact h3
            · exact (hor.resolve_left (fun q => q hz2)) j (by omega)
          · exact .inl h3
        · rw [decide_eq_false hz2]
          refine iteF ?_
          exact ⟨_, _, ⟨rfl, rfl⟩, hz, .inl hz2⟩
      · rintro σ' H2 ⟨z, y2, rfl, rfl, hz, hor⟩
        walk_at "rd"
        have hn : z ∉ ts := hor.elim id fun h => (few htl fun j hj => h j (by rw [letters_eq]; simp only [List.length_cons, List.length_nil]; omega)).elim
        exact q z H2 hz.ok hn e hp
    walk_at "rd"
    refine ⟨a, 6, rfl, hp, by omega, by omega, fun w1 H1 hw1 g1 p1 => ?_⟩
    refine ⟨a, 26, rfl, p1, by omega, by omega, fun r1 H2 hr1 g2 p2 => ?_⟩
    obtain ⟨c, hc, ec⟩ := at_of (xs := (Str.ofString "abcdefghijklmnopqrstuvwxyz").cps.toList) (n := 26) (by rw [letters_eq]; rfl) hr1.1 hr1.2
    have hcl : lower c = true := by rw [← in_letters]; exact decide_eq_true hc
    refine ⟨_, r1, c, rfl, rfl, small (by decide +kernel), ec, _, _, ⟨rfl, rfl⟩, rfl, ?_⟩
    have g12 := g1.trans g2
    have n1 : Nm 1 ⟨#[c]⟩ := ⟨c, [], rfl, hcl, (fun x hx => by cases hx), Nat.le_refl _⟩
    by_cases h0 : w1 = 0
    · subst h0
      walk_at "rd"
      refine ⟨by decide, fun p hpn => ?_⟩
      have hpa : p ≠ a := fun z => by
        obtain ⟨_, _, _, p2⟩ := p2
        rw [z, p2] at hpn
        cases hpn
      refine ⟨a, 8, rfl, ?_, by omega, by omega, fun r2 H3 hr2 g3 p3 => ?_⟩
      · obtain ⟨x', d', c', p2⟩ := p2
        exact ⟨x', d', c', by rw [upd_ne hpa.symm]; exact p2⟩
      obtain ⟨v, hv, ev⟩ := at_of (xs := [V.str (Str.ofString "measure"), V.str (Str.ofString "kind"), V.str (Str.ofString "person"), V.str (Str.ofString "without"), V.str (Str.ofString "none"), V.str (Str.ofString "a"), V.str (Str.ofString "z9z9z9z9"), V.str (Str.ofString "zz")]) (n := 8) rfl hr2.1 hr2.2
      refine ⟨p, _, r2, v, rfl, rfl, sqL (g3.at upd_same hpa), ev, ?_⟩
      have hv2 : ∃ z, v = .str z ∧ nameOk z = true := by
        simp only [List.mem_cons, List.not_mem_nil, or_false] at hv
        rcases hv with rfl | rfl | rfl | rfl | rfl | rfl | rfl | rfl <;> exact ⟨_, rfl, by decide +kernel⟩
      obtain ⟨z, rfl, hz⟩ := hv2
      walk_at "rd"
      rw [decide_eq_false (show ¬ (0 : Int) = 1 by decide)]
      refine iteF ?_
      rw [decide_eq_false (show ¬ (1 : Int) < 0 by decide)]
      refine iteF ?_
      exact fin _ _ _ _ (Nm.of hz) ((g12.alloc hpn).trans g3) p3
    · by_cases h1 : w1 = 1
      · subst h1
        walk_at "rd"
        rw [decide_eq_false (show ¬ (1 : Int) = 0 by decide)]
        refine iteF ?_
        refine ⟨by decide, fun p hpn => ?_⟩
        have ht2 : (upd H2 p (.lst [])) t = some (.lst (ts.map V.str)) := (g12.alloc hpn).at ht hta
        refine ⟨.list (ts.map PyData.str), .list [], .lst (sqL ht2) (dp_strs _), .lst (sqL upd_same) .nil, shapedL_strs fun s hs => strOk_of (hts s hs), shapedL_strs (ss := []) (fun s hs => by cases hs), _, rfl, ?_⟩
        have en : (!PyData.eqv (.list (ts.map PyData.str)) (.list [])) = decide (ts ≠ []) := by
          have e := eqv_strs ts []
          simp only [PyData.eqv]
          rw [List.map_nil] at e
          rw [e]
          by_cases h : ts = [] <;> simp [h]
        rw [en]
        have gp := g12.alloc (o := .lst []) hpn
        have pp : Pool (upd H2 p (.lst [])) a := by
          obtain ⟨x', d', c', p2⟩ := p2
          exact ⟨x', d', c', by rw [upd_ne (fun z => by rw [z, hpn] at p2; cases p2)]; exact p2⟩
        by_cases hne : ts = []
        · rw [decide_eq_false (fun z => z hne)]
          refine iteF ?_
          rw [decide_eq_false (show ¬ (1 : Int) < 1 by decide)]
          refine iteF ?_
          exact fin _ _ _ _ (n1.up (by decide)) gp pp
        · rw [decide_eq_true hne]
          refine iteT ?_
          obtain ⟨s', hs', es'⟩ := at_last hne
          refine ⟨t, _, -1, _, rfl, rfl, sqL ht2, es', ?_⟩
          refine ⟨a, 10, rfl, pp, by omega, by omega, fun r2 H3 hr2 g3 p3 => ?_⟩
          obtain ⟨d, hd, ed⟩ := at_of (xs := (Str.ofString "0123456789").cps.toList) (n := 10) (by decide +kernel) hr2.1 hr2.2
          have hdl : lowdig d = true := by
            have e : (Str.ofString "0123456789").cps.toList = [48, 49, 50, 51, 52, 53, 54, 55, 56, 57] := by decide +kernel
            rw [e] at hd
            simp only [List.mem_cons, List.not_mem_nil, or_false] at hd
            rcases hd with rfl | rfl | rfl | rfl | rfl | rfl | rfl | rfl | rfl | rfl <;> rfl
          refine ⟨_, r2, d, rfl, rfl, small (by decide +kernel), ed, ?_⟩
          have n9 := (Nm.of (hts s' hs')).snoc hdl
          have n9l := n9.len.1
          have n8l := (Nm.of (hts s' hs')).len.1
          have l1 : (Str.length ⟨#[d]⟩) = 1 := rfl
          refine ⟨_, rfl, _, rfl, small (by omega), _, rfl, small (by omega), ?_⟩
          rw [decide_eq_false (show ¬ (1 : Int) < 1 by decide)]
          refine iteF ?_
          exact fin _ _ _ _ n9.cut8 (gp.trans g3) p3
      · have h2 : 1 < w1 := by omega
        rw [decide_eq_false (fun z => h0 (by cases z; rfl))]
        refine iteF ?_
        refine ⟨rfl, ?_⟩
        rw [decide_eq_false (fun z => h1 (by cases z; rfl))]
        refine iteF ?_
        walk_at "rd"
        rw [decide_eq_true h2]
        refine iteT ?_
        refine forRd (fun n H3 => (0 ≤ n ∧ n < 8) ∧ Gr (· = a) H H3 ∧ Pool H3 a) (fun R h => ⟨_, rfl, a, 8, rfl, p2, by omega, by omega, fun m H3 hm g3 p3 => h m H3 ⟨hm, g12.trans g3, p3⟩⟩) (fun n H1 c => ⟨c.1.1, by omega⟩)
          (fun n i σ' H' => ∃ (z : Str) (y : Option V), σ' = [some (.ref a), some (.ref t), some (.int w1), some (.str z), y, none] ∧ n < 8 ∧ Nm (1 + i) z ∧ Gr (· = a) H H' ∧ Pool H' a) (fun n' H1 c => ⟨_, _, rfl, c.1.2, n1, c.2⟩) ?_ ?_
        · rintro n' i σ' H' hi ⟨z, y, rfl, hn8, hz, g3, p3⟩
          walk_at "rd"
          refine ⟨a, 36, rfl, p3, by omega, by omega, fun r2 H4 hr2 g4 p4 => ?_⟩
          obtain ⟨d, hd, ed⟩ := at_of (xs := (Str.ofString "abcdefghijklmnopqrstuvwxyz0123456789").cps.toList) (n := 36) (by decide +kernel) hr2.1 hr2.2
          have hdl : lowdig d = true := by rw [← in_lettersdigits]; exact decide_eq_true hd
          refine ⟨_, r2, d, rfl, rfl, small (by decide +kernel), ed, ?_⟩
          have n9 := hz.snoc hdl
          have n8l := hz.len.1
          have l1 : (Str.length ⟨#[d]⟩) = 1 := rfl
          walk_at "rd"
          refine ⟨small (by omega), _, _, ⟨rfl, rfl⟩, hn8, ?_, g3.trans g4, p4⟩
          exact n9.up (by omega)
        · rintro n' σ' H' hn' ⟨z, y, rfl, hn8, hz, g3, p3⟩
          walk_at "rd"
          exact fin _ _ _ _ (hz.up (by omega)) g3 p3
end
end K11

namespace K11
open PySem PySem.Spec PyProof.Rows L2 Z ZE
local macro_rules | `(tactic| walk_at "rd") => `(tactic| try simp only [cxOf, tSeq, tIfS, tRet, tRetN, tAsg, tDrop, tNext, tBreak, tCont, tNever, tPar, tPar3, tAug, gName, gTup, gCons, gNil, gSub, tVar, tC, tOp, tUn, tCB, tBM, tBM0, tCons, tNil, tTest, tB, tAnd, tOr, tNot, tAndV, tOrV, tNotV, tIf, tChain,
  tTup, tLst, tCall, tMeth, tSl, tPart, tNoPart, tM1, tFmt, tJs_nil, tJs_cons, tCKw, rI0, rI, rU, rEq, rNe, scal_ii, scal_ss, scal_bb, ipI, iStr, iTup, iList, iRng1, sFld, tFld, L2.start, List.getElem?_cons_zero, List.getElem?_cons_succ, List.set_cons_zero, List.set_cons_succ, Option.some.injEq, V.int.injEq, V.bl.injEq, V.str.injEq, V.ref.injEq,
  List.cons.injEq, exists_and_left, exists_eq_left', exists_eq_left, exists_eq_right, exists_eq_right', exists_eq', exists_eq, and_true, true_and, and_self, List.map_cons, List.map_nil, List.length_cons, List.length_nil, List.replicate_succ, List.replicate_zero, List.cons_append, List.nil_append, List.append_nil,
  Nat.add_sub_cancel, Nat.reduceAdd, Nat.reduceSub, if_true, if_false, ite_true, ite_false, Bool.not_true, Bool.not_false, Bool.true_eq_false, Bool.false_eq_true, reduceIte, reduceCtorEq, false_and, exists_false, or_false, false_or, decide_true, decide_false, wipe])

theorem sub_filter {r ks : List Str} (h : r.Sublist ks) (hd : ks.Nodup) : r = ks.filter fun k => decide (k ∈ r) := by
  induction h with
  | slnil => rfl
  | @cons l1 l2 a h ih =>
    rw [List.nodup_cons] at hd
    have ha : a ∉ l1 := fun q => hd.1 (h.subset q)
    rw [List.filter_cons, decide_eq_false ha]
    exact ih hd.2
  | @cons_cons l1 l2 a h ih =>
    rw [List.nodup_cons] at hd
    rw [List.filter_cons, decide_eq_true (List.mem_cons_self ..)]
    simp only [if_true]
    congr 1
    have e : l2.filter (fun k => decide (k ∈ a :: l1)) = l2.filter fun k => decide (k ∈ l1) := List.filter_congr fun x hx => by
      have hxa : x ≠ a := fun q => by
        rw [q] at hx
        exact hd.1 hx
      simp [hxa]
    rw [e]
    exact ih hd.2
theorem Pool.get {H : Hp} {a p : Addr} (h : Pool H a) (hp : H p = none) : ¬ p = a := fun z => by
  obtain ⟨_, _, _, h⟩ := h
  rw [z, h] at hp
  cases hp
theorem Pool.new {H : Hp} {a p : Addr} {o : HO} (h : Pool H a) (hp : ¬ p = a) : Pool (upd H p o) a := by
  obtain ⟨x, d, c, h⟩ := h
  exact ⟨x, d, c, by rw [upd_ne (fun z => hp z.symm)]; exact h⟩
section
variable {P : Program} {w : World} {K : PySem.W.Frag} {mg : Str → Option Value} {base : Heap}
/-- the three lists of an order that is being drawn -/
structure Lay (K : PySem.W.Frag) (H H' : Hp) (a h g c : Addr) (ms : List Str) (ks : List Kd) (ps : List Pn) : Prop where
  gr : Gr (· = a) H H'
  po : Pool H' a
  ha : ¬ h = a
  ga : ¬ g = a
  ca : ¬ c = a
  hg : h ≠ g
  hc : h ≠ c
  gc : g ≠ c
  fh : H h = none
  fg : H g = none
  fc : H c = none
  lh : H' h = some (.lst (ms.map V.str))
  lg : ∃ xs, H' g = some (.lst xs) ∧ DTs K H' xs (ks.map Kd.d)
  lc : ∃ xs, H' c = some (.lst xs) ∧ DTs K H' xs (ps.map Pn.d)
theorem Lay.mono {H H' H'' : Hp} {a h g c : Addr} {ms : List Str} {ks : List Kd} {ps : List Pn} (L : Lay K H H' a h g c ms ks ps) (e : Gr (· = a) H' H'') (p : Pool H'' a) : Lay K H H'' a h g c ms ks ps := by
  obtain ⟨xs, g1, g2⟩ := L.lg
  obtain ⟨ys, c1, c2⟩ := L.lc
  exact ⟨L.gr.trans e, p, L.ha, L.ga, L.ca, L.hg, L.hc, L.gc, L.fh, L.fg, L.fc, e.at L.lh L.ha, ⟨xs, e.at g1 L.ga, g2.mono e.any⟩, ⟨ys, e.at c1 L.ca, c2.mono e.any⟩⟩
theorem Lay.new {H H' : Hp} {a h g c p : Addr} {o : HO} {ms : List Str} {ks : List Kd} {ps : List Pn} (L : Lay K H H' a h g c ms ks ps) (hp : H' p = none) : Lay K H (upd H' p o) a h g c ms ks ps := L.mono (.new hp) (L.po.new (L.po.get hp))
theorem lst_ne {H : Hp} {p q : Addr} {o : HO} (h : H p = some o) (hq : H q = none) : p ≠ q := fun z => by
  rw [z, hq] at h
  cases h
theorem take_snoc {α : Type} {l : List α} {i : Nat} {x : α} (h : l[i]? = some x) : l.take (i + 1) = l.take i ++ [x] := by
  rw [List.take_add_one, h]
  rfl
theorem nodup_snoc {α : Type} {l : List α} {x : α} (h : l.Nodup) (hx : x ∉ l) : (l ++ [x]).Nodup := by
  rw [List.nodup_append]
  refine ⟨h, by simp, fun y hy z hz => ?_⟩
  rw [List.mem_singleton.mp hz]
  intro e
  rw [e] at hy
  exact hx hy
theorem DTs.snoc {H : Hp} {xs : List V} {ds : List D} {x : V} {d : D} (h : DTs K H xs ds) (hx : DT K H x d) : DTs K H (xs ++ [x]) (ds ++ [d]) := by
  induction ds generalizing xs with
  | nil =>
    cases h
    exact .cons hx .nil
  | cons e ds ih =>
    cases h with
    | cons h1 h2 => exact .cons h1 (ih h2)
theorem Lay.pushG {H H' : Hp} {a h g c : Addr} {ms : List Str} {ks : List Kd} {ps : List Pn} {xs : List V} {x : V} {k : Kd} (L : Lay K H H' a h g c ms ks ps) (l1 : H' g = some (.lst xs)) (l2 : DTs K H' xs (ks.map Kd.d)) (hx : DT K H' x k.d) : Lay K H (upd H' g (.lst (xs ++ [x]))) a h g c ms (ks ++ [k]) ps := by
  have eu : Gr (· = g) H' (upd H' g (.lst (xs ++ [x]))) := Gr.refl.put l1 (.inr rfl)
  obtain ⟨ys, r1, r2⟩ := L.lc
  obtain ⟨_, _, _, p4⟩ := L.po
  exact ⟨L.gr.put l1 (.inl L.fg), ⟨_, _, _, eu.at p4 fun z => L.ga z.symm⟩, L.ha, L.ga, L.ca, L.hg, L.hc, L.gc, L.fh, L.fg, L.fc, eu.at L.lh L.hg, ⟨_, upd_same, by rw [List.map_append]; exact DTs.snoc (l2.mono eu.any) (hx.mono eu.any)⟩, ⟨ys, eu.at r1 L.gc.symm, r2.mono eu.any⟩⟩
theorem Lay.pushC {H H' : Hp} {a h g c : Addr} {ms : List Str} {ks : List Kd} {ps : List Pn} {xs : List V} {x : V} {k : Pn} (L : Lay K H H' a h g c ms ks ps) (l1 : H' c = some (.lst xs)) (l2 : DTs K H' xs (ps.map Pn.d)) (hx : DT K H' x k.d) : Lay K H (upd H' c (.lst (xs ++ [x]))) a h g c ms ks (ps ++ [k]) := by
  have eu : Gr (· = c) H' (upd H' c (.lst (xs ++ [x]))) := Gr.refl.put l1 (.inr rfl)
  obtain ⟨ys, r1, r2⟩ := L.lg
  obtain ⟨_, _, _, p4⟩ := L.po
  exact ⟨L.gr.put l1 (.inl L.fc), ⟨_, _, _, eu.at p4 fun z => L.ca z.symm⟩, L.ha, L.ga, L.ca, L.hg, L.hc, L.gc, L.fh, L.fg, L.fc, eu.at L.lh L.hc, ⟨ys, eu.at r1 L.gc, r2.mono eu.any⟩, ⟨_, upd_same, by rw [List.map_append]; exact DTs.snoc (l2.mono eu.any) (hx.mono eu.any)⟩⟩
theorem ints_of {lo hi : Int} : ∀ {ys : List V}, (∀ (i : Nat) (y : V), ys[i]? = some y → ∃ n : Int, y = .int n ∧ lo ≤ n ∧ n ≤ hi) → ∃ ws : List Int, ys = ws.map V.int ∧ ∀ x ∈ ws, lo ≤ x ∧ x ≤ hi
  | [], _ => ⟨[], rfl, fun x h => by cases h⟩
  | y :: ys, h => by
    obtain ⟨n, rfl, hn⟩ := h 0 y rfl
    obtain ⟨ws, rfl, hw⟩ := ints_of (ys := ys) fun i z hz => h (i + 1) z hz
    exact ⟨n :: ws, rfl, fun x hx => (List.mem_cons.mp hx).elim (fun e => e ▸ hn) (hw x)⟩
abbrev s_law_parts : Stmt := topS 48
theorem sc_law_parts : FnScope ["_law_pool_here", "_law_way", "_law_rate", "_law_heads", "_law_goods", "_law_crowd", "_law_k", "_law_row", "_law_title", "_law_many", "_law_who", "_law_part", "_law_lacking", "_law_head"] ["_law_pool_here"] (defScope s_law_parts) := ⟨rfl, rfl, rfl, by decide +kernel, rfl, by decide +kernel, by decide +kernel⟩
def TupAt (K : PySem.W.Frag) (H : Hp) (x : Addr) (o : Od) : Prop := ∃ a b c, SqT K H x [.ref a, .ref b, .ref c] ∧ PartsAt K H a b c o
def spLParts (K : PySem.W.Frag) : Sp := fun vs H Q _ => ∃ a, vs = [.ref a] ∧ Pool H a ∧ ∀ x o H', TupAt K H' x o → Gr (· = a) H H' → Pool H' a → Q (.ref x) H'
theorem ok_law_parts (B : Bl mg) (c_law_draw : Cal P w K mg base 1 "_law_draw" ["_law_pool_here", "_law_many"] spDraw) (c_law_name : Cal P w K mg base 2 "_law_name" ["_law_pool_here", "_law_taken"] spLName) (D0 : Df K mg "_law_parts" s_law_parts) : Cal P w K mg base 3 "_law_parts" ["_law_pool_here"] (spLParts K) := by
  refine D0.cal sc_law_parts (fun _ _ _ _ _ _ us hl => match us, hl with | [_], _ => rfl) (fun vs H Q E h => ?_) (fun f cdv A outer s H vs Q E hr h => ?_)
  · obtain ⟨a, rfl, _⟩ := h
    rfl
  · obtain ⟨a, rfl, hp, q⟩ := h
    refine ⟨_, (pss_cons (ps_par (i := 1) (j := 2) rfl sc_law_parts.nd rfl rfl (by decide) rfl rfl (pa_cons (pe_cal c_law_draw hr (by decide) rfl (pa_cons (pv 0) (pa_cons pe_int pa_nil))) (pa_cons (pe_op op_add pe_int (pe_cal c_law_draw hr (by decide) rfl (pa_cons (pv 0) (pa_cons pe_int pa_nil)))) pa_nil)) (by rfl))
      (pss_cons (ps_par3 (i := 3) (j := 4) (l := 5) rfl sc_law_parts.nd rfl rfl rfl (by decide) (by decide) (by decide) rfl rfl rfl (pa_cons (pe_lst pa_nil) (pa_cons (pe_lst pa_nil) (pa_cons (pe_lst pa_nil) pa_nil))) (by rfl))
      (pss_cons (ps_for PassesOwn.never rfl (pi_range1 rfl B.range_ (pa_cons (pe_ifExp (pt_cmpR op_eq (pv 1) pe_int (nomark _)) pe_int pe_int) pa_nil)) (pg_name (i := 6) sc_law_parts.nd rfl (.inl rfl)) (pss_one (ps_expr (pe_bm PySem.F.plainAttrs_list PySem.F.slot_list_append PySem.F.type_list_append mt_append (pv 3) (pa_cons (pe_cal c_law_name hr (by decide) rfl (pa_cons (pv 0) (pa_cons (pv 3) pa_nil))) pa_nil)))))
      (pss_cons (ps_for PassesOwn.never rfl (pi_range1 rfl B.range_ (pa_cons (pe_op op_add pe_int (pe_cal c_law_draw hr (by decide) rfl (pa_cons (pv 0) (pa_cons pe_int pa_nil)))) pa_nil)) (pg_name (i := 6) sc_law_parts.nd rfl (.inl rfl)) (pss_cons (ps_par (i := 8) (j := 9) rfl sc_law_parts.nd rfl rfl (by decide) rfl rfl (pa_cons (pe_cal c_law_name hr (by decide) rfl (pa_cons (pv 0) (pa_cons (pe_lc (own := [("_law_row", 7)]) (g := gName 7) rfl sc_law_parts.nd (pi_list (pv 4)) (blkOk_by (N := ["_law_pool_here", "_law_way", "_law_rate", "_law_heads", "_law_goods", "_law_crowd", "_law_k", "_law_row", "_law_title", "_law_many", "_law_who", "_law_part", "_law_lacking", "_law_head"]) (sc := defScope s_law_parts) (by decide +kernel)) (fun _ _ _ _ _ => (pg_name (i := 7) sc_law_parts.nd rfl (.inl rfl))) (fun _ _ _ _ _ => pts_nil) (fun _ _ _ _ _ => (pe_ix (r := rIxT K) ix_tup (pv 7) pe_int (fun _ _ => rfl)))) pa_nil))) (pa_cons (pe_op op_add pe_int (pe_cal c_law_draw hr (by decide) rfl (pa_cons (pv 0) (pa_cons pe_int pa_nil)))) pa_nil)) (by rfl))
      (pss_one (ps_expr (pe_bm PySem.F.plainAttrs_list PySem.F.slot_list_append PySem.F.type_list_append mt_append (pv 4) (pa_cons (pe_tup (pa_cons (pv 8) (pa_cons (pv 9) (pa_cons (pe_callTy (r := rTupOf K) call_tuple_of (by rfl) B.tuple_ (by decide +kernel) (pa_cons (pe_lc (own := [("_law_head", 13)]) (g := gName 13) rfl sc_law_parts.nd (pi_list (pv 3)) (blkOk_by (N := ["_law_pool_here", "_law_way", "_law_rate", "_law_heads", "_law_goods", "_law_crowd", "_law_k", "_law_row", "_law_title", "_law_many", "_law_who", "_law_part", "_law_lacking", "_law_head"]) (sc := defScope s_law_parts) (by decide +kernel)) (fun _ _ _ _ _ => (pg_name (i := 13) sc_law_parts.nd rfl (.inl rfl))) (fun _ _ _ _ _ => pts_nil) (fun _ _ _ _ _ => (pe_cal c_law_draw hr (by decide) rfl (pa_cons (pv 0) (pa_cons pe_int pa_nil))))) pa_nil)) pa_nil)))) pa_nil))))))
      (pss_cons (ps_for PassesOwn.never rfl (pi_range1 rfl B.range_ (pa_cons (pe_ifExp (pt_cmpR op_eq (pv 1) pe_int (nomark _)) pe_int pe_int) pa_nil)) (pg_name (i := 6) sc_law_parts.nd rfl (.inl rfl)) (pss_cons (ps_par3 (i := 10) (j := 11) (l := 12) rfl sc_law_parts.nd rfl rfl rfl (by decide) (by decide) (by decide) rfl rfl rfl (pa_cons (pe_cal c_law_name hr (by decide) rfl (pa_cons (pv 0) (pa_cons (pe_lc (own := [("_law_row", 7)]) (g := gName 7) rfl sc_law_parts.nd (pi_list (pv 5)) (blkOk_by (N := ["_law_pool_here", "_law_way", "_law_rate", "_law_heads", "_law_goods", "_law_crowd", "_law_k", "_law_row", "_law_title", "_law_many", "_law_who", "_law_part", "_law_lacking", "_law_head"]) (sc := defScope s_law_parts) (by decide +kernel)) (fun _ _ _ _ _ => (pg_name (i := 7) sc_law_parts.nd rfl (.inl rfl))) (fun _ _ _ _ _ => pts_nil) (fun _ _ _ _ _ => (pe_ix (r := rIxT K) ix_tup (pv 7) pe_int (fun _ _ => rfl)))) pa_nil))) (pa_cons (pe_op op_add pe_int (pe_cal c_law_draw hr (by decide) rfl (pa_cons (pv 0) (pa_cons pe_int pa_nil)))) (pa_cons (pe_lst pa_nil) pa_nil))) (by rfl))
      (pss_cons (ps_for PassesOwn.never rfl (pi_list (pv 4)) (pg_name (i := 7) sc_law_parts.nd rfl (.inl rfl)) (pss_one (ps_if (pt_cmpR op_eq (pe_cal c_law_draw hr (by decide) rfl (pa_cons (pv 0) (pa_cons (pe_op op_add (pv 2) pe_int) pa_nil))) pe_int (nomark _)) (pss_one (ps_expr (pe_bm PySem.F.plainAttrs_list PySem.F.slot_list_append PySem.F.type_list_append mt_append (pv 12) (pa_cons (pe_ix (r := rIxT K) ix_tup (pv 7) pe_int (fun _ _ => rfl)) pa_nil)))) pss_nil)))
      (pss_one (ps_expr (pe_bm PySem.F.plainAttrs_list PySem.F.slot_list_append PySem.F.type_list_append mt_append (pv 5) (pa_cons (pe_tup (pa_cons (pv 10) (pa_cons (pv 11) (pa_cons (pe_callTy (r := rTupOf K) call_tuple_of (by rfl) B.tuple_ (by decide +kernel) (pa_cons (pv 12) pa_nil)) pa_nil)))) pa_nil)))))))
      (pss_one (ps_ret (pe_tup (pa_cons (pe_callTy (r := rTupOf K) call_tuple_of (by rfl) B.tuple_ (by decide +kernel) (pa_cons (pv 3) pa_nil)) (pa_cons (pe_callTy (r := rTupOf K) call_tuple_of (by rfl) B.tuple_ (by decide +kernel) (pa_cons (pv 4) pa_nil)) (pa_cons (pe_callTy (r := rTupOf K) call_tuple_of (by rfl) B.tuple_ (by decide +kernel) (pa_cons (pv 5) pa_nil)) pa_nil))))))))))), ?_⟩
    walk_at "rd"
    refine ⟨a, 3, rfl, hp, by omega, by omega, fun w1 H1 hw1 g1 p1 => ?_⟩
    refine ⟨a, 5, rfl, p1, by omega, by omega, fun w2 H2 hw2 g2 p2 => ?_⟩
    walk_at "rd"
    refine ⟨_, _, ⟨rfl, rfl⟩, by decide, fun h fh => ⟨by decide, fun g fg => ⟨by decide, fun c fc => ⟨_, _, _, ⟨rfl, rfl, rfl⟩, ?_⟩⟩⟩⟩
    have L0 : Lay K H (upd (upd (upd H2 h (.lst [])) g (.lst [])) c (.lst [])) a h g c [] [] [] := by
      have e1 := (g1.trans g2).alloc (o := .lst []) fh
      have e2 := e1.alloc (o := .lst []) fg
      have e3 := e2.alloc (o := .lst []) fc
      have q1 := p2.new (o := .lst []) (p2.get fh)
      have q2 := q1.new (o := .lst []) (q1.get fg)
      have q3 := q2.new (o := .lst []) (q2.get fc)
      have hg : h ≠ g := lst_ne upd_same fg
      have hc : h ≠ c := lst_ne (by rw [upd_ne hg]; exact upd_same) fc
      have gc : g ≠ c := lst_ne upd_same fc
      exact ⟨e3, q3, p2.get fh, q1.get fg, q2.get fc, hg, hc, gc, (g1.trans g2).free fh, e1.free fg, e2.free fc, by rw [upd_ne hc, upd_ne hg]; exact upd_same, ⟨_, by rw [upd_ne gc]; exact upd_same, .nil⟩, ⟨_, upd_same, .nil⟩⟩
    generalize upd (upd (upd H2 h (.lst [])) g (.lst [])) c (.lst []) = H3 at L0
    refine forRd (fun n H4 => H4 = H3 ∧ n = if w1 = 2 then 2 else 1) (fun R h => ?_) (fun n H1 c => by
        rw [c.2]
        split <;> omega)
      (fun n i σ' H' => ∃ (ms : List Str) (y : Option V), σ' = [some (.ref a), some (.int w1), some (.int (1 + w2)), some (.ref h), some (.ref g), some (.ref c), y, none, none, none, none, none, none, none] ∧ Lay K H H' a h g c ms [] [] ∧ ms.length = i ∧ (∀ s ∈ ms, nameOk s = true) ∧ ms.Nodup ∧ n = if w1 = 2 then 2 else 1)
      (fun n H1 c => ⟨[], _, rfl, by rw [c.1]; exact L0, rfl, (fun s hs => by cases hs), List.nodup_nil, c.2⟩) ?_ ?_
    · walk_at "rd"
      by_cases hw : w1 = 2
      · rw [decide_eq_true hw]
        exact iteT (h _ _ ⟨rfl, by rw [if_pos hw]⟩)
      · rw [decide_eq_false hw]
        exact iteF (h _ _ ⟨rfl, by rw [if_neg hw]⟩)
    · rintro n i σ' H' hi ⟨ms, y, rfl, L, hl, hok, hnd, hn⟩
      have hn2 : n ≤ 2 := by
        rw [hn]
        split <;> omega
      walk_at "rd"
      refine ⟨.inl ⟨rfl, _, sqL L.lh⟩, a, h, ms, rfl, L.po, L.lh, by omega, hok, fun z H4 hz hzn e4 p4 => ?_⟩
      have L4 := L.mono e4 p4
      refine ⟨h, _, _, rfl, rfl, L4.lh, smallt (by rw [List.length_map]; omega), ?_⟩
      have eu : Gr (· = h) H4 (upd H4 h (.lst (ms.map V.str ++ [.str z]))) := Gr.refl.put L4.lh (.inr rfl)
      obtain ⟨xs, q1, q2⟩ := L4.lg
      obtain ⟨ys, r1, r2⟩ := L4.lc
      refine ⟨ms ++ [z], ⟨L4.gr.put L4.lh (.inl L4.fh), ?_, L4.ha, L4.ga, L4.ca, L4.hg, L4.hc, L4.gc, L4.fh, L4.fg, L4.fc, by rw [upd_same, List.map_append]; rfl, ⟨xs, eu.at q1 L4.hg.symm, q2.mono eu.any⟩, ⟨ys, eu.at r1 L4.hc.symm, r2.mono eu.any⟩⟩, by rw [List.length_append, hl]; rfl, fun s hs => ?_, nodup_snoc hnd hzn, hn⟩
      · obtain ⟨_, _, _, p4⟩ := p4
        exact ⟨_, _, _, eu.at p4 fun z => L4.ha z.symm⟩
      · rcases List.mem_append.mp hs with hs | hs
        · exact hok s hs
        · rw [List.mem_singleton.mp hs]
          exact hz
    · rintro n σ' H' hn0 ⟨ms, y, rfl, L, hl, hok, hnd, hn⟩
      walk_at "rd"
      have hms : 1 ≤ ms.length ∧ ms.length ≤ 2 ∧ (ms.length = 2 → w1 = 2) := by
        split at hn <;> omega
      clear hn hl hn0
      refine forRd (fun n H4 => (1 ≤ n ∧ n ≤ 4) ∧ Lay K H H4 a h g c ms [] []) (fun R h => ?_) (fun n H1 c => by have := c.1; omega)
        (fun n i σ' H' => ∃ (ks : List Kd) (y6 y7 y8 y9 y10 y11 y12 y13 : Option V), σ' = [some (.ref a), some (.int w1), some (.int (1 + w2)), some (.ref h), some (.ref g), some (.ref c), y6, y7, y8, y9, y10, y11, y12, y13] ∧ Lay K H H' a h g c ms ks [] ∧ ks.length = i ∧ (1 ≤ n ∧ n ≤ 4) ∧ (∀ k ∈ ks, Kd.ok ms.length k) ∧ (ks.map Kd.n).Nodup)
        (fun n H1 c => ⟨[], _, _, _, _, _, _, _, _, rfl, c.2, rfl, c.1, (fun s hs => by cases hs), List.nodup_nil⟩) ?_ ?_
      · walk_at "rd"
        refine ⟨a, 4, rfl, L.po, by omega, by omega, fun m H4 hm e4 p4 => ?_⟩
        walk_at "rd"
        exact h _ _ ⟨by omega, L.mono e4 p4⟩
      · clear L
        rintro n i σ' H' hi ⟨ks, y6, y7, y8, y9, y10, y11, y12, y13, rfl, L, hl, hn, hkok, hnd⟩
        walk_at "rd"
        obtain ⟨xs, l1, l2⟩ := L.lg
        have hxl := l2.lenM
        refine lcLf (a := g) (xs := xs) (fun R h => ⟨_, rfl, h⟩) (sqL l1) (by omega) ((ks.map Kd.n).map V.str) (by rw [List.length_map, List.length_map, hxl]) ?_ ?_
        · intro j x z H4 Q' hx hz e q'
          obtain ⟨k, k1, k2⟩ := l2.getM hx
          rw [List.map_map, List.getElem?_map, k1] at hz
          cases hz
          obtain ⟨p', b', rfl, k3, _⟩ := (k2.mono e.any).kd
          walk_at "rd"
          exact ⟨p', _, 0, _, rfl, rfl, k3, atI_nat (j := 0) rfl, q' H4 .refl⟩
        · intro D H4 hD e4 h4
          have L4 := L.mono (e4.of) (by obtain ⟨_, _, _, p⟩ := L.po; exact ⟨_, _, _, e4.get p⟩)
          walk_at "rd"
          refine ⟨a, D, ks.map Kd.n, rfl, L4.po, h4, by rw [List.length_map]; omega, fun s hs => ?_, fun z H5 hz hzn e5 p5 => ?_⟩
          · obtain ⟨k, hk, rfl⟩ := List.mem_map.mp hs
            exact (hkok k hk).n
          have L5 := L4.mono e5 p5
          refine ⟨a, 3, rfl, L5.po, by omega, by omega, fun m H6 hm e6 p6 => ?_⟩
          have L6 := L5.mono e6 p6
          obtain ⟨xs6, l61, l62⟩ := L6.lg
          refine ⟨_, rfl, _, _, ⟨rfl, rfl⟩, .inl ⟨rfl, _, sqL l61⟩, ?_⟩
          refine lcL (a := h) (xs := ms.map V.str) (fun R h => ⟨_, rfl, h⟩) (sqL L6.lh) (by rw [List.length_map]; omega) (· = a) L6.ha (fun H' => Pool H' a) (fun i y _ => ∃ n : Int, y = .int n ∧ 0 ≤ n ∧ n ≤ 6)
            (fun b e z => L6.po.get z e) L6.po (fun H' D o hD e p => p.new (L6.po.get hD)) (fun _ _ _ _ q _ => q) ?_ ?_
          · intro j x H7 Q' hx e p q'
            walk_at "rd"
            exact ⟨a, 7, rfl, p, by omega, by omega, fun r H7 hr e7 p7 => q' _ H7 e7 p7 ⟨r, rfl, hr.1, by omega⟩⟩
          · intro D2 ys H7 hD2 e7 p7 h7 hl7 hR7
            obtain ⟨ws, rfl, hws⟩ := ints_of hR7
            rw [List.length_map, List.length_map] at hl7
            refine ⟨D2, _, rfl, .inl ⟨sqL h7, fun T hT => ?_⟩⟩
            walk_at "rd"
            refine ⟨by decide, fun p hp => ?_⟩
            have L8 := ((L6.mono e7 p7).new (o := .tup (ws.map V.int)) hT).new (o := .tup [.str z, .int (1 + m), .ref T]) hp
            obtain ⟨xs8, l81, l82⟩ := L8.lg
            have hxl8 := l82.lenM
            refine ⟨g, _, _, rfl, rfl, l81, smallt (by omega), ?_⟩
            walk_at "rd"
            have hpT : T ≠ p := lst_ne upd_same hp
            refine ⟨ks ++ [⟨z, 1 + m, ws⟩], _, _, _, _, _, _, _, _, ⟨rfl, rfl, rfl, rfl, rfl, rfl, rfl, rfl⟩, L8.pushG (k := ⟨z, 1 + m, ws⟩) l81 l82 (.tup (sqT upd_same) (.cons (.str _) (.cons (.int _) (.cons (.tup (sqT (by rw [upd_ne hpT]; exact upd_same)) (DTs.ofInts _)) .nil)))), by rw [List.length_append, hl]; rfl, hn, fun k hk => ?_, ?_⟩
            · rcases List.mem_append.mp hk with hk | hk
              · exact hkok k hk
              · rw [List.mem_singleton.mp hk]
                exact ⟨hz, ⟨by show 1 ≤ 1 + m; omega, by show 1 + m ≤ 3; omega⟩, hl7, hws⟩
            · rw [List.map_append]
              exact nodup_snoc hnd hzn
      · clear L
        rintro n2 σ' H' hn0 ⟨ks, y6, y7, y8, y9, y10, y11, y12, y13, rfl, L, hl, hn, hkok, hkd⟩
        have hks : 1 ≤ ks.length ∧ ks.length ≤ 4 := by omega
        clear hl hn hn0
        walk_at "rd"
        refine forRd (fun n H4 => H4 = H' ∧ n = if w1 = 1 then 3 else 2) (fun R h => ?_) (fun n H1 c => by
            rw [c.2]
            split <;> omega)
          (fun n i σ' H' => ∃ (ps : List Pn) (y6 y7 y8 y9 y10 y11 y12 y13 : Option V), σ' = [some (.ref a), some (.int w1), some (.int (1 + w2)), some (.ref h), some (.ref g), some (.ref c), y6, y7, y8, y9, y10, y11, y12, y13] ∧ Lay K H H' a h g c ms ks ps ∧ ps.length = i ∧ (n = if w1 = 1 then 3 else 2) ∧ (∀ p ∈ ps, Pn.ok (ks.map Kd.n) p) ∧ (ps.map Pn.n).Nodup)
          (fun n H1 c => ⟨[], _, _, _, _, _, _, _, _, rfl, by rw [c.1]; exact L, rfl, c.2, (fun s hs => by cases hs), List.nodup_nil⟩) ?_ ?_
        · walk_at "rd"
          by_cases hw : w1 = 1
          · rw [decide_eq_true hw]
            exact iteT (h _ _ ⟨rfl, by rw [if_pos hw]⟩)
          · rw [decide_eq_false hw]
            exact iteF (h _ _ ⟨rfl, by rw [if_neg hw]⟩)
        · clear L
          rintro n i σ' H' hi ⟨ps, y6, y7, y8, y9, y10, y11, y12, y13, rfl, L, hl, hn, hpok, hnd⟩
          have hn3 : n ≤ 3 := by
            rw [hn]
            split <;> omega
          walk_at "rd"
          obtain ⟨xs, l1, l2⟩ := L.lc
          have hxl := l2.lenM
          refine lcLf (a := c) (xs := xs) (fun R h => ⟨_, rfl, h⟩) (sqL l1) (by omega) ((ps.map Pn.n).map V.str) (by rw [List.length_map, List.length_map, hxl]) ?_ ?_
          · intro j x z H4 Q' hx hz e q'
            obtain ⟨k, k1, k2⟩ := l2.getM hx
            rw [List.map_map, List.getElem?_map, k1] at hz
            cases hz
            obtain ⟨p', b', rfl, k3, _⟩ := (k2.mono e.any).pn
            walk_at "rd"
            exact ⟨p', _, 0, _, rfl, rfl, k3, atI_nat (j := 0) rfl, q' H4 .refl⟩
          · intro D H4 hD e4 h4
            have L4 := L.mono (e4.of) (by obtain ⟨_, _, _, p⟩ := L.po; exact ⟨_, _, _, e4.get p⟩)
            walk_at "rd"
            refine ⟨a, D, ps.map Pn.n, rfl, L4.po, h4, by rw [List.length_map]; omega, fun s hs => ?_, fun z H5 hz hzn e5 p5 => ?_⟩
            · obtain ⟨k, hk, rfl⟩ := List.mem_map.mp hs
              exact (hpok k hk).n
            have L5 := L4.mono e5 p5
            refine ⟨a, 3, rfl, L5.po, by omega, by omega, fun m H6 hm e6 p6 => ?_⟩
            have L6 := L5.mono e6 p6
            walk_at "rd"
            refine ⟨by decide, fun D2 hD2 => ⟨_, _, _, ⟨rfl, rfl, rfl⟩, ?_⟩⟩
            have L7 := L6.new (o := .lst []) hD2
            obtain ⟨gx, gx1, gx2⟩ := L7.lg
            have hgl := gx2.lenM
            have fD2 : H D2 = none := L6.gr.free hD2
            have da : ¬ D2 = a := L6.po.get hD2
            have dg : D2 ≠ g := fun z => by
              obtain ⟨_, q1, _⟩ := L6.lg
              rw [z, q1] at hD2
              cases hD2
            have dh : D2 ≠ h := fun z => by
              have q1 := L6.lh
              rw [z, q1] at hD2
              cases hD2
            have dc : D2 ≠ c := fun z => by
              obtain ⟨_, q1, _⟩ := L6.lc
              rw [z, q1] at hD2
              cases hD2
            refine forLs (a := g) (xs := gx) (fun R h => ⟨_, rfl, h⟩) (sqL gx1) (fun j σ' H' => ∃ (r : List Str) (y7 : Option V), σ' = [some (.ref a), some (.int w1), some (.int (1 + w2)), some (.ref h), some (.ref g), some (.ref c), some (.int (i : Int)), y7, y8, y9, some (.str z), some (.int (1 + m)), some (.ref D2), y13] ∧
              Lay K H H' a h g c ms ks ps ∧ H' g = some (.lst gx) ∧ DTs K H' gx (ks.map Kd.d) ∧ H' D2 = some (.lst (r.map V.str)) ∧ r.Sublist ((ks.map Kd.n).take j)) ⟨[], _, rfl, L7, gx1, gx2, upd_same, List.nil_sublist _⟩ (fun j σ' H' p => by
                obtain ⟨_, _, _, _, q1, _⟩ := p
                exact sqL q1) ?_ ?_
            · rintro j x σ' H8 hx ⟨r, y7, rfl, L8, gx3, gx4, hr2, hsub⟩
              walk_at "rd"
              refine ⟨a, _, rfl, L8.po, by omega, by omega, fun t H9 ht e9 p9 => ?_⟩
              have L9 := L8.mono e9 p9
              have gx5 := e9.at gx3 L8.ga
              have gx6 := gx4.mono e9.any
              have hr3 := e9.at hr2 da
              obtain ⟨k, k1, k2⟩ := gx6.getM hx
              obtain ⟨p', b', rfl, k3, _⟩ := k2.kd
              have kn : (ks.map Kd.n)[j]? = some k.n := by
                rw [List.getElem?_map, k1]
                rfl
              walk_at "rd"
              by_cases ht0 : t = 0
              · rw [decide_eq_true ht0]
                refine iteT ?_
                refine ⟨.inl ⟨rfl, _, sqL hr3⟩, p', _, 0, _, rfl, rfl, k3, atI_nat (j := 0) rfl, ?_⟩
                have hrl := hsub.length_le
                rw [List.length_take, List.length_map] at hrl
                refine ⟨D2, _, _, rfl, rfl, hr3, smallt (by rw [List.length_map]; omega), ?_⟩
                walk_at "rd"
                have eu : Gr (· = D2) H9 (upd H9 D2 (.lst (r.map V.str ++ [.str k.n]))) := Gr.refl.put hr3 (.inr rfl)
                obtain ⟨ys, r1, r2⟩ := L9.lc
                obtain ⟨_, _, _, p4⟩ := L9.po
                refine ⟨⟨L9.gr.put hr3 (.inl fD2), ⟨_, _, _, eu.at p4 fun z => da z.symm⟩, L9.ha, L9.ga, L9.ca, L9.hg, L9.hc, L9.gc, L9.fh, L9.fg, L9.fc, eu.at L9.lh dh.symm, ⟨_, eu.at gx5 dg.symm, gx6.mono eu.any⟩, ⟨ys, eu.at r1 dc.symm, r2.mono eu.any⟩⟩, eu.at gx5 dg.symm, gx6.mono eu.any, r ++ [k.n], by rw [upd_same, List.map_append]; rfl, ?_⟩
                rw [take_snoc kn]
                exact hsub.append (List.Sublist.refl _)
              · rw [decide_eq_false ht0]
                refine iteF ?_
                walk_at "rd"
                refine ⟨L9, gx5, gx6, r, hr3, ?_⟩
                rw [take_snoc kn]
                exact hsub.trans (List.sublist_append_left ..)
            · rintro σ' H8 ⟨r, y7, rfl, L8, gx3, gx4, hr2, hsub⟩
              rw [List.take_of_length_le (by rw [List.length_map]; omega)] at hsub
              walk_at "rd"
              obtain ⟨cx, c1, c2⟩ := L8.lc
              have hcl := c2.lenM
              refine ⟨.inl ⟨rfl, _, sqL c1⟩, ?_⟩
              refine ⟨D2, _, rfl, .inl ⟨sqL hr2, fun T hT => ?_⟩⟩
              walk_at "rd"
              refine ⟨by decide, fun p hp => ?_⟩
              have L9 := (L8.new (o := .tup (r.map V.str)) hT).new (o := .tup [.str z, .int (1 + m), .ref T]) hp
              obtain ⟨xs8, l81, l82⟩ := L9.lc
              have hxl8 := l82.lenM
              refine ⟨c, _, _, rfl, rfl, l81, smallt (by omega), ?_⟩
              walk_at "rd"
              have hpT : T ≠ p := lst_ne upd_same hp
              refine ⟨ps ++ [⟨z, 1 + m, r⟩], _, _, _, _, _, _, _, _, ⟨rfl, rfl, rfl, rfl, rfl, rfl, rfl, rfl⟩, L9.pushC (k := ⟨z, 1 + m, r⟩) l81 l82 (.tup (sqT upd_same) (.cons (.str _) (.cons (.int _) (.cons (.tup (sqT (by rw [upd_ne hpT]; exact upd_same)) (DTs.ofStrs _)) .nil)))), by rw [List.length_append, hl]; rfl, hn, fun k hk => ?_, ?_⟩
              · rcases List.mem_append.mp hk with hk | hk
                · exact hpok k hk
                · rw [List.mem_singleton.mp hk]
                  exact ⟨hz, ⟨by show 1 ≤ 1 + m; omega, by show 1 + m ≤ 3; omega⟩, sub_filter hsub hkd⟩
              · rw [List.map_append]
                exact nodup_snoc hnd hzn
        · clear L
          rintro n σ' H' hn0 ⟨ps, y6, y7, y8, y9, y10, y11, y12, y13, rfl, L, hl, hn, hpok, hpd⟩
          walk_at "rd"
          obtain ⟨gx, g1, g2⟩ := L.lg
          obtain ⟨cx, c1, c2⟩ := L.lc
          refine ⟨h, _, rfl, .inl ⟨sqL L.lh, fun A1 hA1 => ?_⟩⟩
          have L1 := L.new (o := .tup (ms.map V.str)) hA1
          have e1 : Ex H' (upd H' A1 (.tup (ms.map V.str))) := .new hA1
          refine ⟨g, _, rfl, .inl ⟨sqL (e1.get g1), fun A2 hA2 => ?_⟩⟩
          have L2 := L1.new (o := .tup gx) hA2
          have e2 : Ex (upd H' A1 (.tup (ms.map V.str))) (upd (upd H' A1 (.tup (ms.map V.str))) A2 (.tup gx)) := .new hA2
          refine ⟨c, _, rfl, .inl ⟨sqL (e2.get (e1.get c1)), fun A3 hA3 => ?_⟩⟩
          have L3 := L2.new (o := .tup cx) hA3
          have e3 : Ex (upd (upd H' A1 (.tup (ms.map V.str))) A2 (.tup gx)) (upd (upd (upd H' A1 (.tup (ms.map V.str))) A2 (.tup gx)) A3 (.tup cx)) := .new hA3
          walk_at "rd"
          refine ⟨by decide, fun x hx => ?_⟩
          have L4 := L3.new (o := .tup [.ref A1, .ref A2, .ref A3]) hx
          have e4 : Ex (upd (upd (upd H' A1 (.tup (ms.map V.str))) A2 (.tup gx)) A3 (.tup cx)) (upd (upd (upd (upd H' A1 (.tup (ms.map V.str))) A2 (.tup gx)) A3 (.tup cx)) x (.tup [.ref A1, .ref A2, .ref A3])) := .new hx
          refine q x ⟨ms, ks, ps⟩ _ ⟨A1, A2, A3, sqT upd_same, sqT (e4.get (e3.get (e2.get upd_same))), ⟨gx, sqT (e4.get (e3.get upd_same)), g2.mono (((e1.trans e2).trans e3).trans e4).any⟩, ⟨cx, sqT (e4.get upd_same), c2.mono (((e1.trans e2).trans e3).trans e4).any⟩, ?_⟩ L4.gr L4.po
          have hpl : (w1 = 1 → ps.length = 3) ∧ (w1 ≠ 1 → ps.length = 2) := by
            split at hn <;> constructor <;> intro <;> first | omega | (exfalso; omega)
          by_cases hw : w1 = 1
          · have h3 := hpl.1 hw
            exact ⟨⟨hms.1, hms.2.1⟩, hok, hnd, hks, hkok, hkd, ⟨by show 2 ≤ ps.length; omega, by show ps.length ≤ 3; omega⟩, fun z => absurd (hms.2.2 z) (by omega), hpok, hpd⟩
          · have h3 := hpl.2 hw
            exact ⟨⟨hms.1, hms.2.1⟩, hok, hnd, hks, hkok, hkd, ⟨by show 2 ≤ ps.length; omega, by show ps.length ≤ 3; omega⟩, fun _ => h3, hpok, hpd⟩
end
end K11

namespace K11
open PySem PySem.Spec PyProof.Rows L2 Z ZE
local macro_rules | `(tactic| walk_at "rd") => `(tactic| try simp only [cxOf, tSeq, tIfS, tRet, tRetN, tAsg, tDrop, tNext, tBreak, tCont, tNever, tPar, tPar3, tAug, gName, gTup, gCons, gNil, gSub, tVar, tC, tOp, tUn, tCB, tBM, tBM0, tCons, tNil, tTest, tB, tAnd, tOr, tNot, tAndV, tOrV, tNotV, tIf, tChain,
  tTup, tLst, tCall, tMeth, tSl, tPart, tNoPart, tM1, tFmt, tJs_nil, tJs_cons, tCKw, rI0, rI, rU, rEq, rNe, scal_ii, scal_ss, scal_bb, ipI, iStr, iTup, iList, iRng1, sFld, tFld, L2.start, List.getElem?_cons_zero, List.getElem?_cons_succ, List.set_cons_zero, List.set_cons_succ, Option.some.injEq, V.int.injEq, V.bl.injEq, V.str.injEq, V.ref.injEq,
  List.cons.injEq, exists_and_left, exists_eq_left', exists_eq_left, exists_eq_right, exists_eq_right', exists_eq', exists_eq, and_true, true_and, and_self, List.map_cons, List.map_nil, List.length_cons, List.length_nil, List.replicate_succ, List.replicate_zero, List.cons_append, List.nil_append, List.append_nil,
  Nat.add_sub_cancel, Nat.reduceAdd, Nat.reduceSub, if_true, if_false, ite_true, ite_false, Bool.not_true, Bool.not_false, Bool.true_eq_false, Bool.false_eq_true, reduceIte, reduceCtorEq, false_and, exists_false, or_false, false_or, decide_true, decide_false, wipe])

section
variable {K : PySem.W.Frag} {g : TG} {tb : TS} {tl : TE} {ta : TA} {Dn : Ends} {σ : L2.St} {H : Hp}
/-- for x in e, e may change the heap -/
theorem forLd (C : Addr → List V → Hp → Prop) (ht : ∀ R : VK, (∀ p xs H1, C p xs H1 → R (.ref p) H1) → tl σ H R) (hS : ∀ p xs H1, C p xs H1 → SqL K H1 p xs) (Pv : Addr → List V → Nat → L2.St → Hp → Prop) (h0 : ∀ p xs H1, C p xs H1 → Pv p xs 0 σ H1)
    (hG : ∀ p xs i σ' H', Pv p xs i σ' H' → SqL K H' p xs)
    (hs : ∀ p xs (i : Nat) (x : V) σ' H', xs[i]? = some x → Pv p xs i σ' H' → g x σ' H' fun σ2 H2 => tb { Dn with nx := Pv p xs (i + 1), ct := Pv p xs (i + 1), bk := Dn.nx } σ2 H2)
    (hd : ∀ p xs σ' H', Pv p xs xs.length σ' H' → Dn.nx σ' H') : tFor (iList K tl) g tb Dn σ H :=
  ht _ fun p xs H1 c => ⟨p, rfl, ⟨xs, hS p xs H1 c⟩, for_list (Pv p xs) (h0 p xs H1 c) (fun i σ' H' _ q => hG p xs i σ' H' q) (fun i x σ' H' hx q => hs p xs i x σ' H' hx q) (hd p xs)⟩
theorem forTd (C : Addr → List V → Hp → Prop) (ht : ∀ R : VK, (∀ p xs H1, C p xs H1 → R (.ref p) H1) → tl σ H R) (hS : ∀ p xs H1, C p xs H1 → SqT K H1 p xs) (Pv : Addr → List V → Nat → L2.St → Hp → Prop) (h0 : ∀ p xs H1, C p xs H1 → Pv p xs 0 σ H1)
    (hG : ∀ p xs i σ' H', Pv p xs i σ' H' → SqT K H' p xs)
    (hs : ∀ p xs (i : Nat) (x : V) σ' H', xs[i]? = some x → Pv p xs i σ' H' → g x σ' H' fun σ2 H2 => tb { Dn with nx := Pv p xs (i + 1), ct := Pv p xs (i + 1), bk := Dn.nx } σ2 H2)
    (hd : ∀ p xs σ' H', Pv p xs xs.length σ' H' → Dn.nx σ' H') : tFor (iTup K tl) g tb Dn σ H :=
  ht _ fun p xs H1 c => ⟨p, rfl, ⟨xs, hS p xs H1 c⟩, for_tup (Pv p xs) (h0 p xs H1 c) (fun i σ' H' _ q => hG p xs i σ' H' q) (fun i x σ' H' hx q => hs p xs i x σ' H' hx q) (hd p xs)⟩
end
theorem app_empty (a : Str) : a ++ ("" : Str) = a := by
  show (⟨a.cps ++ #[]⟩ : Str) = a
  rw [Array.append_empty]
section
variable {P : Program} {w : World} {K : PySem.W.Frag} {mg : Str → Option Value} {base : Heap} {C : Addr}
abbrev s_law_text : Stmt := topS 49
theorem sc_law_text : FnScope ["_law_parts_here", "_law_heads", "_law_goods", "_law_crowd", "_law_rows_here", "_law_title", "_law_many", "_law_worths", "_law_who", "_law_part", "_law_lacking", "_law_tail", "_law_worth"] ["_law_parts_here"] (defScope s_law_text) := ⟨rfl, rfl, rfl, by decide +kernel, rfl, by decide +kernel, by decide +kernel⟩
def spLText (K : PySem.W.Frag) : Sp := fun vs H Q _ => ∃ x o, vs = [.ref x] ∧ TupAt K H x o ∧ ∀ H', Ex H H' → Q (.str o.text) H'
theorem ok_law_text (B : Bl mg) (D0 : Df K mg "_law_text" s_law_text) : Cal P w K mg base 1 "_law_text" ["_law_parts_here"] (spLText K) := by
  refine D0.cal sc_law_text (fun _ _ _ _ _ _ us hl => match us, hl with | [_], _ => rfl) (fun vs H Q E h => ?_) (fun f cdv A outer s H vs Q E hr h => ?_)
  · obtain ⟨x, o, rfl, _⟩ := h
    rfl
  · obtain ⟨x, o, rfl, ⟨a, b, c, hx, hp⟩, q⟩ := h
    refine ⟨_, (pss_cons (ps_asg (pv 0) (pg_tup rfl (pgs_cons (pg_name (i := 1) sc_law_text.nd rfl (.inl rfl)) (pgs_cons (pg_name (i := 2) sc_law_text.nd rfl (.inl rfl)) (pgs_cons (pg_name (i := 3) sc_law_text.nd rfl (.inl rfl)) pgs_nil)))))
      (pss_cons (ps_set (i := 4) sc_law_text.nd rfl (.inl rfl) (pe_lst (pa_cons (pe_op op_add_str pe_str (pe_join pe_str (pv 1))) pa_nil)))
      (pss_cons (ps_for PassesOwn.never rfl (pi_tup (pv 2)) (pg_tup rfl (pgs_cons (pg_name (i := 5) sc_law_text.nd rfl (.inl rfl)) (pgs_cons (pg_name (i := 6) sc_law_text.nd rfl (.inl rfl)) (pgs_cons (pg_name (i := 7) sc_law_text.nd rfl (.inl rfl)) pgs_nil)))) (pss_one (ps_expr (pe_bm PySem.F.plainAttrs_list PySem.F.slot_list_append PySem.F.type_list_append mt_append (pv 4) (pa_cons (pe_op op_add_str (pe_op op_add_str (pe_op op_add_str (pe_op op_add_str (pe_op op_add_str pe_str (pv 5)) pe_str) (pe_callTy call_str_int (by rfl) B.str_ (by decide +kernel) (pa_cons (pv 6) pa_nil))) pe_str) (pe_join pe_str (pe_lc (own := [("_law_worth", 12)]) (g := gName 12) rfl sc_law_text.nd (pi_tup (pv 7)) (blkOk_by (N := ["_law_parts_here", "_law_heads", "_law_goods", "_law_crowd", "_law_rows_here", "_law_title", "_law_many", "_law_worths", "_law_who", "_law_part", "_law_lacking", "_law_tail", "_law_worth"]) (sc := defScope s_law_text) (by decide +kernel)) (fun _ _ _ _ _ => (pg_name (i := 12) sc_law_text.nd rfl (.inl rfl))) (fun _ _ _ _ _ => pts_nil) (fun _ _ _ _ _ => (pe_callTy call_str_int (by rfl) B.str_ (by decide +kernel) (pa_cons (pv 12) pa_nil)))))) pa_nil)))))
      (pss_cons (ps_for PassesOwn.never rfl (pi_tup (pv 3)) (pg_tup rfl (pgs_cons (pg_name (i := 8) sc_law_text.nd rfl (.inl rfl)) (pgs_cons (pg_name (i := 9) sc_law_text.nd rfl (.inl rfl)) (pgs_cons (pg_name (i := 10) sc_law_text.nd rfl (.inl rfl)) pgs_nil)))) (pss_cons (ps_set (i := 11) sc_law_text.nd rfl (.inl rfl) (pe_ifExp (pt_cmpR (r := rNeD K) (op_neD hr.units) (pv 10) (pe_tup pa_nil) (nomark _)) (pe_op op_add_str pe_str (pe_join pe_str (pv 10))) pe_str))
      (pss_one (ps_expr (pe_bm PySem.F.plainAttrs_list PySem.F.slot_list_append PySem.F.type_list_append mt_append (pv 4) (pa_cons (pe_op op_add_str (pe_op op_add_str (pe_op op_add_str (pe_op op_add_str pe_str (pv 8)) pe_str) (pe_callTy call_str_int (by rfl) B.str_ (by decide +kernel) (pa_cons (pv 9) pa_nil))) (pv 11)) pa_nil))))))
      (pss_one (ps_ret (pe_join pe_str (pv 4)))))))), ?_⟩
    have ho := hp.ok
    have hM := hp.m
    obtain ⟨kx, hK, hKs⟩ := hp.k
    obtain ⟨px, hP, hPs⟩ := hp.p
    walk_at "rd"
    refine ⟨_, hx, rfl, _, _, rfl, _, _, rfl, _, _, rfl, rfl, ?_⟩
    walk_at "rd"
    refine ⟨o.ms, .inr hM, by have := Od.joinM ho; omega, ?_, by decide, fun l hl => ?_⟩
    · have h1 := Od.lM ho
      unfold rowM at h1
      rw [app_len] at h1
      exact Nat.le_trans h1 (by decide)
    have hkl := hKs.lenM
    have hpl := hPs.lenM
    have hk4 := ho.k1
    have hp3 := ho.p1
    refine forTp (a := b) (xs := kx) (fun R h => ⟨_, rfl, h⟩) (Gr.seqT (m := nob) (.new hl) hK) (fun i σ' H' => ∃ y5 y6 y7 y8 y9 y10 y11 y12, σ' = [some (.ref x), some (.ref a), some (.ref b), some (.ref c), some (.ref l), y5, y6, y7, y8, y9, y10, y11, y12] ∧ Ex H H' ∧ H' l = some (.lst ((rowM o.ms :: (o.ks.take i).map rowK).map V.str)))
      ⟨_, _, _, _, _, _, _, _, rfl, .new hl, upd_same⟩ (fun i σ' H' p => by
        obtain ⟨_, _, _, _, _, _, _, _, _, e, _⟩ := p
        exact e.seqT hK) ?_ ?_
    · rintro i x' σ' H' hx' ⟨y5, y6, y7, y8, y9, y10, y11, y12, rfl, e, hL⟩
      obtain ⟨k, hk1, hk2⟩ := hKs.getM hx'
      have hkm := List.mem_of_getElem? hk1
      have hi : i < o.ks.length := (List.getElem?_eq_some_iff.mp hk1).1
      obtain ⟨p', b', rfl, h1, h2⟩ := (hk2.mono e.any).kd
      walk_at "rd"
      refine ⟨_, h1, rfl, _, _, rfl, _, _, rfl, _, _, rfl, rfl, ?_⟩
      have hlk := Od.lK ho hkm
      unfold rowK at hlk
      simp only [app_len, num] at hlk
      have hnk := (nameOk_len (ho.k2 k hkm).n).2
      have hck : k.c.natAbs.log2 < 1920 := by
        have := (ho.k2 k hkm).c
        exact Nat.lt_of_le_of_lt (Nat.log2_le_self _) (by omega)
      walk_at "rd"
      refine ⟨.inl ⟨rfl, _, sqL hL⟩, small (by omega), small (by simp only [app_len]; omega), hck, small (by simp only [app_len]; omega), small (by simp only [app_len]; omega), ?_⟩
      refine lcTf (a := b') (xs := k.w.map V.int) (fun R h => ⟨_, rfl, h⟩) h2 (by rw [List.length_map, (ho.k2 k hkm).l]; have := ho.m1; omega) ((k.w.map num).map V.str) (by rw [List.length_map, List.length_map, List.length_map]) ?_ ?_
      · intro j x z H2 Q' hx' hz' e2 q'
        rw [List.getElem?_map] at hx'
        rw [List.map_map, List.getElem?_map] at hz'
        cases e3 : k.w[j]? with
        | none =>
          rw [e3] at hx'
          cases hx'
        | some n =>
          rw [e3] at hx' hz'
          cases hx'
          cases hz'
          walk_at "rd"
          have hn := (ho.k2 k hkm).w n (List.mem_of_getElem? e3)
          refine ⟨?_, q' H2 .refl⟩
          have h9 : n.natAbs ≤ 6 := by omega
          exact Nat.lt_of_le_of_lt (Nat.log2_le_self _) (by omega)
      · intro D1 H2 hD e2 h3
        walk_at "rd"
        refine ⟨k.w.map num, .inl (sqL h3), by have := Od.joinW ho hkm; omega, small (by simp only [app_len]; omega), ?_⟩
        refine ⟨l, _, _, rfl, rfl, e2.get hL, smallt (by simp only [List.length_map, List.length_cons, List.length_take]; omega), ?_⟩
        refine ⟨_, _, _, _, _, _, _, _, ⟨rfl, rfl, rfl, rfl, rfl, rfl, rfl, rfl⟩, (e.trans e2).put (e2.get hL) (.inl hl), ?_⟩
        rw [upd_same, List.take_add_one, hk1]
        have er : rowK k = ("kind " : Str) ++ k.n ++ (" " : Str) ++ num k.c ++ (": " : Str) ++ Txt.join (", " : Str) (k.w.map num) := by rw [rowK, empty_app]
        simp only [Option.toList_some, List.map_append, List.map_cons, List.map_nil, List.cons_append, List.nil_append, List.append_assoc]
        rw [er]
    · rintro σ' H' ⟨y5, y6, y7, y8, y9, y10, y11, y12, rfl, e, hL⟩
      rw [hkl, List.take_length] at hL
      walk_at "rd"
      refine forTp (a := c) (xs := px) (fun R h => ⟨_, rfl, h⟩) (e.seqT hP) (fun i σ' H' => ∃ y5 y6 y7 y8 y9 y10 y11 y12, σ' = [some (.ref x), some (.ref a), some (.ref b), some (.ref c), some (.ref l), y5, y6, y7, y8, y9, y10, y11, y12] ∧ Ex H H' ∧ H' l = some (.lst ((rowM o.ms :: (o.ks.map rowK ++ (o.ps.take i).map rowP)).map V.str)))
        ⟨_, _, _, _, _, _, _, _, rfl, e, by rw [List.take_zero, List.map_nil, List.append_nil]; exact hL⟩ (fun i σ' H' p => by
          obtain ⟨_, _, _, _, _, _, _, _, _, e, _⟩ := p
          exact e.seqT hP) ?_ ?_
      · rintro i x' σ' H2 hx' ⟨y5, y6, y7, y8, y9, y10, y11, y12, rfl, e, hL⟩
        obtain ⟨p, hk1, hk2⟩ := hPs.getM hx'
        have hpm := List.mem_of_getElem? hk1
        have hi : i < o.ps.length := (List.getElem?_eq_some_iff.mp hk1).1
        obtain ⟨p', b', rfl, h1, h2⟩ := (hk2.mono e.any).pn
        walk_at "rd"
        refine ⟨_, h1, rfl, _, _, rfl, _, _, rfl, _, _, rfl, rfl, ?_⟩
        have hj := Od.joinR ho hpm
        have hjl := join_len (", " : Str) p.r
        have hnk := (nameOk_len (ho.p3 p hpm).n).2
        have hck : p.s.natAbs.log2 < 1920 := by
          have := (ho.p3 p hpm).s
          exact Nat.lt_of_le_of_lt (Nat.log2_le_self _) (by omega)
        have hlk := Od.lP ho hpm
        walk_at "rd"
        refine ⟨by decide, fun t ht => ?_⟩
        have hrl := Od.r_ok ho hpm
        have et : Ex H2 (upd H2 t (.tup [])) := .new ht
        refine ⟨.tuple (p.r.map PyData.str), .tuple [], .tup (et.seqT h2) (dp_strs _), .tup (sqT upd_same) .nil, shaped_strs fun s hs => strOk_of (hrl s hs), shaped_strs (ss := []) (fun s hs => by cases hs), _, rfl, ?_⟩
        have en : (!PyData.eqv (.tuple (p.r.map PyData.str)) (.tuple [])) = decide (p.r ≠ []) := by
          have e := eqv_strs p.r []
          simp only [PyData.eqv]
          rw [List.map_nil] at e
          rw [e]
          by_cases h : p.r = [] <;> simp [h]
        rw [en]
        have hL2 := et.get hL
        have fin : ∀ z : Str, z = rowP p → (upd (upd H2 t (.tup [])) l (.lst ((rowM o.ms :: (o.ks.map rowK ++ (o.ps.take i).map rowP)).map V.str ++ [V.str z]))) l = some (.lst ((rowM o.ms :: (o.ks.map rowK ++ (o.ps.take (i + 1)).map rowP)).map V.str)) := by
          rintro z rfl
          rw [upd_same, List.take_add_one, hk1]
          simp only [Option.toList_some, List.map_append, List.map_cons, List.map_nil, List.cons_append, List.nil_append, List.append_assoc]
        have hsz : ((rowM o.ms :: (o.ks.map rowK ++ (o.ps.take i).map rowP)).map V.str).length < sizeLine := smallt (by simp only [List.length_map, List.length_cons, List.length_append, List.length_take]; omega)
        by_cases hr0 : p.r = []
        · have er : rowP p = ("person " : Str) ++ p.n ++ (" " : Str) ++ num p.s ++ ("" : Str) := by rw [rowP, if_pos hr0, empty_app, app_empty]
          have l0 : ("" : Str).length = 0 := by decide +kernel
          rw [er] at hlk
          simp only [app_len, num] at hlk
          rw [decide_eq_false (fun z => z hr0)]
          refine iteF ?_
          walk_at "rd"
          refine ⟨.inl ⟨rfl, _, sqL hL2⟩, small (by omega), small (by simp only [app_len]; omega), hck, small (by simp only [app_len]; omega), small (by simp only [app_len]; omega), ?_⟩
          refine ⟨l, _, _, rfl, rfl, hL2, hsz, ?_⟩
          exact ⟨_, _, _, _, _, _, _, _, ⟨rfl, rfl, rfl, rfl, rfl, rfl, rfl, rfl⟩, (e.trans et).put hL2 (.inl hl), fin _ er.symm⟩
        · have er : rowP p = ("person " : Str) ++ p.n ++ (" " : Str) ++ num p.s ++ ((" without " : Str) ++ Txt.join (", " : Str) p.r) := by rw [rowP, if_neg hr0, empty_app, app_assoc]
          rw [er] at hlk
          simp only [app_len, num] at hlk
          rw [decide_eq_true hr0]
          refine iteT ?_
          refine ⟨p.r, .inr (et.seqT h2), by omega, small (by omega), .inl ⟨rfl, _, sqL hL2⟩, small (by omega), small (by simp only [app_len]; omega), hck, small (by simp only [app_len]; omega), small (by simp only [app_len]; omega), ?_⟩
          refine ⟨l, _, _, rfl, rfl, hL2, hsz, ?_⟩
          exact ⟨_, _, _, _, _, _, _, _, ⟨rfl, rfl, rfl, rfl, rfl, rfl, rfl, rfl⟩, (e.trans et).put hL2 (.inl hl), fin _ er.symm⟩
      · rintro σ' H2 ⟨y5, y6, y7, y8, y9, y10, y11, y12, rfl, e, hL⟩
        rw [hpl, List.take_length] at hL
        walk_at "rd"
        refine ⟨_, .inl (sqL hL), by have := Od.joinT ho; omega, ?_⟩
        exact q H2 e
abbrev s_Order__str : Stmt := inClass (topS 26) 7
theorem sc_Order__str : FnScope ["self"] ["self"] (defScope s_Order__str) := ⟨rfl, rfl, rfl, by decide +kernel, rfl, by decide +kernel, by decide +kernel⟩
def spStr (C : Addr) (K : PySem.W.Frag) : Sp := fun vs H Q _ => ∃ x, ∃ (o : Od), vs = [.ref x] ∧ OrdAt K C H x o ∧ Q (.str o.text) H
theorem ok_str (B : Bl mg) (T : OrdC K C) (D0 : Dm K C "__str__" "Order.__str__" s_Order__str) : Mtd P w K mg base 1 C "__str__" ["self"] (spStr C K) := by
  refine D0.mtd sc_Order__str (fun _ _ _ _ _ _ us hl => match us, hl with | [_], _ => rfl) (fun vs H Q E h => ?_) (fun f cdv A outer s H vs Q E hr h => ?_)
  · obtain ⟨x, o, rfl, _⟩ := h
    rfl
  · obtain ⟨x, o, rfl, ⟨dx, a, b, c, hx, hp⟩, q⟩ := h
    refine ⟨_, (pss_one (ps_ret (pe_callTy SkE.call_str_str (by rfl) B.str_ (by decide +kernel) (pa_cons (pe_fld (pv 0) rfl) pa_nil)))), ?_⟩
    walk_at "rd"
    exact ⟨C, dx, _, hx, T.cl, T.nt, _, fl_t _ _ _ _, _, rfl, q⟩
abbrev s_law_cell : Stmt := topS 44
theorem sc_law_cell : FnScope ["_law_cells", "_law_k", "_law_seed", "_law_each"] ["_law_cells", "_law_k"] (defScope s_law_cell) := ⟨rfl, rfl, rfl, by decide +kernel, rfl, by decide +kernel, by decide +kernel⟩
def spCell (K : PySem.W.Frag) : Sp := fun vs H Q _ => ∃ a, ∃ (k : Int) (ns : List Int), vs = [.ref a, .int k] ∧ SqL K H a (ns.map V.int) ∧ ns.length ≤ 63 ∧ (0 ≤ k ∧ k < 1000) ∧ ∀ r H', Ex H H' → Q (.int r) H'
theorem ok_law_cell (B : Bl mg) (D0 : Df K mg "_law_cell" s_law_cell) : Cal P w K mg base 1 "_law_cell" ["_law_cells", "_law_k"] (spCell K) := by
  refine D0.cal sc_law_cell (fun _ _ _ _ _ _ us hl => match us, hl with | [_, _], _ => rfl) (fun vs H Q E h => ?_) (fun f cdv A outer s H vs Q E hr h => ?_)
  · obtain ⟨a, k, ns, rfl, _⟩ := h
    rfl
  · obtain ⟨a, k, ns, rfl, hS, hl, hk, q⟩ := h
    refine ⟨_, (pss_cons (ps_if (pt_cmpR op_lt (pv 1) (pe_callB (r := rLenQ K) call_len_seq (by rfl) B.len_ PySem.boot_len (pa_cons (pv 0) pa_nil)) (nomark _)) (pss_one (ps_ret (pe_ix (r := rIxL K) ix_list (pv 0) (pv 1) (fun _ _ => rfl)))) pss_nil)
      (pss_cons (ps_set (i := 2) sc_law_cell.nd rfl (.inl rfl) (pe_op op_add (pe_op op_mul pe_int (pv 1)) pe_int))
      (pss_cons (ps_for PassesOwn.never rfl (pi_list (pe_slice (r := rSlL K) sl_list (pv 0) po_none (po_some pe_int))) (pg_name (i := 3) sc_law_cell.nd rfl (.inl rfl)) (pss_one (ps_set (i := 2) sc_law_cell.nd rfl (.inl rfl) (pe_op op_mod (pe_callTy call_int1 (by rfl) B.int_ (by decide +kernel) (pa_cons (pe_op op_add (pe_op op_add (pe_op op_add (pe_op op_mul (pv 2) pe_int) (pe_op op_mul (pv 3) pe_int)) (pe_op op_mul (pv 1) (pv 1))) pe_int) pa_nil)) pe_int))))
      (pss_one (ps_ret (pv 2)))))), ?_⟩
    walk_at "rd"
    refine ⟨a, _, rfl, .inl hS, ?_⟩
    walk_at "rd"
    rw [List.length_map]
    by_cases hlt : k < (ns.length : Int)
    · rw [decide_eq_true hlt]
      refine iteT ?_
      obtain ⟨v, hv, ev⟩ := at_of (xs := ns.map V.int) (r := k) (n := ns.length) (by rw [List.length_map]) hk.1 hlt
      obtain ⟨n, _, rfl⟩ := List.mem_map.mp hv
      exact ⟨a, _, k, _, rfl, rfl, hS, ev, q n H .refl⟩
    · rw [decide_eq_false hlt]
      refine iteF ?_
      walk_at "rd"
      refine ⟨.inr ⟨by omega, by omega⟩, ?_⟩
      refine forLd (fun p xs H1 => Ex H H1 ∧ H1 p = some (.lst xs) ∧ ∀ x ∈ xs, ∃ n : Int, x = .int n) (fun R h => ⟨_, rfl, 6, rfl, a, _, rfl, hS, fun p hp => h p _ _ ⟨.new hp, upd_same, fun x hx => ?_⟩⟩) (fun p xs H1 c => sqL c.2.1)
        (fun p xs i σ' H' => ∃ (sd : Int) (y : Option V), σ' = [some (.ref a), some (.int k), some (.int sd), y] ∧ Ex H H' ∧ H' p = some (.lst xs) ∧ ∀ x ∈ xs, ∃ n : Int, x = .int n) (fun p xs H1 c => ⟨_, _, rfl, c⟩) (fun p xs i σ' H' c => by
          obtain ⟨_, _, _, _, c, _⟩ := c
          exact sqL c) ?_ ?_
      · rw [show cutV (ns.map V.int) none (some 6) = (ns.map V.int).take 6 from cut_take 6] at hx
        obtain ⟨n, _, rfl⟩ := List.mem_map.mp (List.mem_of_mem_take hx)
        exact ⟨n, rfl⟩
      · rintro p xs i x σ' H' hx ⟨sd, y, rfl, e, h1, h2⟩
        obtain ⟨n, rfl⟩ := h2 x (List.mem_of_getElem? hx)
        walk_at "rd"
        refine ⟨.inr ⟨by omega, by omega⟩, .inr ⟨by omega, by omega⟩, .inr ⟨by omega, by omega⟩, by omega, ?_⟩
        exact ⟨_, _, ⟨rfl, rfl⟩, e, h1, h2⟩
      · rintro p xs σ' H' ⟨sd, y, rfl, e, h1, h2⟩
        walk_at "rd"
        exact q sd H' e
abbrev s_law_pool : Stmt := topS 45
theorem sc_law_pool : FnScope ["_law_cells", "_law_k", "_law_cell_here", "_law_digits"] ["_law_cells", "_law_k"] (defScope s_law_pool) := ⟨rfl, rfl, rfl, by decide +kernel, rfl, by decide +kernel, by decide +kernel⟩
def spPool (K : PySem.W.Frag) : Sp := fun vs H Q _ => ∃ a, ∃ (k : Int) (ns : List Int), vs = [.ref a, .int k] ∧ SqL K H a (ns.map V.int) ∧ ns.length ≤ 63 ∧ (0 ≤ k ∧ k < 1000) ∧ ∀ p H', Ex H H' → H p = none → Pool H' p → Q (.ref p) H'
theorem ok_law_pool (B : Bl mg) (c_law_cell : Cal P w K mg base 1 "_law_cell" ["_law_cells", "_law_k"] (spCell K)) (D0 : Df K mg "_law_pool" s_law_pool) : Cal P w K mg base 2 "_law_pool" ["_law_cells", "_law_k"] (spPool K) := by
  refine D0.cal sc_law_pool (fun _ _ _ _ _ _ us hl => match us, hl with | [_, _], _ => rfl) (fun vs H Q E h => ?_) (fun f cdv A outer s H vs Q E hr h => ?_)
  · obtain ⟨a, k, ns, rfl, _⟩ := h
    rfl
  · obtain ⟨a, k, ns, rfl, hS, hl, hk, q⟩ := h
    refine ⟨_, (pss_cons (ps_set (i := 2) sc_law_pool.nd rfl (.inl rfl) (pe_cal c_law_cell hr (by decide) rfl (pa_cons (pv 0) (pa_cons (pv 1) pa_nil))))
      (pss_cons (ps_set (i := 3) sc_law_pool.nd rfl (.inl rfl) (pe_ifExp (PW.pt (pw_or (pt_cmpR op_lt (pv 2) pe_int (nomark _)) (pw_or1 (pt_cmpR op_ge (pv 2) (pe_op op_pow pe_int pe_int) (nomark _))))) (pe_callB call_abs (by rfl) B.abs_ (by decide +kernel) (pa_cons (pv 2) pa_nil)) pe_int))
      (pss_one (ps_ret (pe_lst (pa_cons (pe_op op_mod (pe_callTy call_int1 (by rfl) B.int_ (by decide +kernel) (pa_cons (pv 2) pa_nil)) pe_int) (pa_cons (pv 3) (pa_cons pe_int pa_nil)))))))), ?_⟩
    walk_at "rd"
    refine ⟨a, k, ns, rfl, hS, hl, hk, fun r H1 e1 => ?_⟩
    walk_at "rd"
    have fin : ∀ u v : Int, 0 < 618970019642690137449562111 ∧ 3 ≤ sizeLine ∧ ∀ p : Addr, H1 p = none → Q (.ref p) (upd H1 p (.lst [.int u, .int v, .int 0])) := fun u v => ⟨by decide, by decide, fun p hp => q p _ (e1.trans (.new hp)) (e1.free hp) ⟨_, _, _, upd_same⟩⟩
    by_cases h1 : r < 0
    · rw [decide_eq_true h1]
      refine iteT ?_
      exact ⟨by omega, (fin _ _).2⟩
    · rw [decide_eq_false h1]
      refine iteF ⟨⟨by decide, by decide, by decide⟩, ?_⟩
      by_cases h2 : (10 : Int) ^ Int.toNat 18 ≤ r
      · rw [decide_eq_true h2]
        refine iteT ?_
        exact ⟨by omega, (fin _ _).2⟩
      · rw [decide_eq_false h2]
        refine iteF ?_
        exact ⟨by omega, (fin _ _).2⟩
end
end K11

namespace K11
open PySem PySem.Spec PyProof.Rows L2 Z ZE
local macro_rules | `(tactic| walk_at "rd") => `(tactic| try simp only [cxOf, tSeq, tIfS, tRet, tRetN, tAsg, tDrop, tNext, tBreak, tCont, tNever, tPar, tPar3, tAug, gName, gTup, gCons, gNil, gSub, tVar, tC, tOp, tUn, tCB, tBM, tBM0, tCons, tNil, tTest, tB, tAnd, tOr, tNot, tAndV, tOrV, tNotV, tIf, tChain,
  tTup, tLst, tCall, tMeth, tSl, tPart, tNoPart, tM1, tFmt, tJs_nil, tJs_cons, tCKw, rI0, rI, rU, rEq, rNe, scal_ii, scal_ss, scal_bb, ipI, iStr, iTup, iList, iRng1, sFld, tFld, L2.start, List.getElem?_cons_zero, List.getElem?_cons_succ, List.set_cons_zero, List.set_cons_succ, Option.some.injEq, V.int.injEq, V.bl.injEq, V.str.injEq, V.ref.injEq,
  List.cons.injEq, exists_and_left, exists_eq_left', exists_eq_left, exists_eq_right, exists_eq_right', exists_eq', exists_eq, and_true, true_and, and_self, List.map_cons, List.map_nil, List.length_cons, List.length_nil, List.replicate_succ, List.replicate_zero, List.cons_append, List.nil_append, List.append_nil,
  Nat.add_sub_cancel, Nat.reduceAdd, Nat.reduceSub, if_true, if_false, ite_true, ite_false, Bool.not_true, Bool.not_false, Bool.true_eq_false, Bool.false_eq_true, reduceIte, reduceCtorEq, false_and, exists_false, or_false, false_or, decide_true, decide_false, wipe])

section
variable {P : Program} {w : World} {K : PySem.W.Frag} {mg : Str → Option Value} {base : Heap} {C : Addr}
abbrev s_law_amount : Stmt := topS 51
theorem sc_law_amount : FnScope ["_law_pool_here", "_law_way", "_law_number", "_law_k"] ["_law_pool_here"] (defScope s_law_amount) := ⟨rfl, rfl, rfl, by decide +kernel, rfl, by decide +kernel, by decide +kernel⟩
def spAmount : Sp := fun vs H Q _ => ∃ a, vs = [.ref a] ∧ Pool H a ∧ ∀ r H', 0 ≤ r → Gr (· = a) H H' → Pool H' a → Q (.int r) H'
theorem ok_law_amount (B : Bl mg) (c_law_draw : Cal P w K mg base 1 "_law_draw" ["_law_pool_here", "_law_many"] spDraw) (D0 : Df K mg "_law_amount" s_law_amount) : Cal P w K mg base 2 "_law_amount" ["_law_pool_here"] spAmount := by
  refine D0.cal sc_law_amount (fun _ _ _ _ _ _ us hl => match us, hl with | [_], _ => rfl) (fun vs H Q E h => ?_) (fun f cdv A outer s H vs Q E hr h => ?_)
  · obtain ⟨a, rfl, _⟩ := h
    rfl
  · obtain ⟨a, rfl, hp, q⟩ := h
    refine ⟨_, (pss_cons (ps_set (i := 1) sc_law_amount.nd rfl (.inl rfl) (pe_cal c_law_draw hr (by decide) rfl (pa_cons (pv 0) (pa_cons pe_int pa_nil))))
      (pss_cons (ps_if (pt_cmpR op_lt (pv 1) pe_int (nomark _)) (pss_one (ps_ret (pe_cal c_law_draw hr (by decide) rfl (pa_cons (pv 0) (pa_cons pe_int pa_nil))))) pss_nil)
      (pss_cons (ps_if (pt_cmpR op_eq (pv 1) pe_int (nomark _)) (pss_one (ps_ret (pe_cal c_law_draw hr (by decide) rfl (pa_cons (pv 0) (pa_cons pe_int pa_nil))))) pss_nil)
      (pss_cons (ps_set (i := 2) sc_law_amount.nd rfl (.inl rfl) (pe_op op_add pe_int (pe_cal c_law_draw hr (by decide) rfl (pa_cons (pv 0) (pa_cons pe_int pa_nil)))))
      (pss_cons (ps_for PassesOwn.never rfl (pi_range1 rfl B.range_ (pa_cons (pe_cal c_law_draw hr (by decide) rfl (pa_cons (pv 0) (pa_cons pe_int pa_nil))) pa_nil)) (pg_name (i := 3) sc_law_amount.nd rfl (.inl rfl)) (pss_one (ps_set (i := 2) sc_law_amount.nd rfl (.inl rfl) (pe_op op_add (pe_op op_mul (pv 2) pe_int) (pe_cal c_law_draw hr (by decide) rfl (pa_cons (pv 0) (pa_cons pe_int pa_nil)))))))
      (pss_one (ps_ret (pv 2)))))))), ?_⟩
    walk_at "rd"
    refine ⟨a, 4, rfl, hp, by omega, by omega, fun w1 H1 hw1 g1 p1 => ?_⟩
    walk_at "rd"
    by_cases hw2 : w1 < 2
    · rw [decide_eq_true hw2]
      refine iteT ?_
      exact ⟨a, 40, rfl, p1, by omega, by omega, fun r H2 hr g2 p2 => q r H2 hr.1 (g1.trans g2) p2⟩
    · rw [decide_eq_false hw2]
      refine iteF ?_
      walk_at "rd"
      by_cases hw3 : w1 = 2
      · rw [decide_eq_true hw3]
        refine iteT ?_
        exact ⟨a, 2000, rfl, p1, by omega, by omega, fun r H2 hr g2 p2 => q r H2 hr.1 (g1.trans g2) p2⟩
      · rw [decide_eq_false hw3]
        refine iteF ?_
        walk_at "rd"
        refine ⟨a, 9, rfl, p1, by omega, by omega, fun n H2 hn g2 p2 => ?_⟩
        walk_at "rd"
        refine forRd (fun n H3 => (0 ≤ n ∧ n < 50) ∧ Gr (· = a) H H3 ∧ Pool H3 a) (fun R h => ⟨_, rfl, a, 50, rfl, p2, by omega, by omega, fun m H3 hm g3 p3 => h m H3 ⟨hm, (g1.trans g2).trans g3, p3⟩⟩) (fun n H1 c => ⟨c.1.1, by omega⟩)
          (fun _ i σ' H' => ∃ (m : Int) (y : Option V), σ' = [some (.ref a), some (.int w1), some (.int m), y] ∧ 0 ≤ m ∧ Gr (· = a) H H' ∧ Pool H' a) (fun n' H1 c => ⟨_, _, rfl, by omega, c.2⟩) ?_ ?_
        · rintro n' i σ' H' hi ⟨m, y, rfl, hm, g3, p3⟩
          walk_at "rd"
          refine ⟨.inr ⟨by omega, by omega⟩, a, 10, rfl, p3, by omega, by omega, fun r H4 hr g4 p4 => ?_⟩
          walk_at "rd"
          exact ⟨_, _, ⟨rfl, rfl⟩, by omega, g3.trans g4, p4⟩
        · rintro n' σ' H' hn' ⟨m, y, rfl, hm, g3, p3⟩
          walk_at "rd"
          exact q m H' hm g3 p3
abbrev s_law_common : Stmt := topS 50
theorem sc_law_common : FnScope ["_law_first", "_law_second", "_law_great", "_law_small", "_law_turn"] ["_law_first", "_law_second"] (defScope s_law_common) := ⟨rfl, rfl, rfl, by decide +kernel, rfl, by decide +kernel, by decide +kernel⟩
def spCommon : Sp := fun vs H Q _ => ∃ t b : Int, vs = [.int t, .int b] ∧ 0 < b ∧ b < 390 ∧ Q (.int (gcdI t b)) H
theorem gcdI_step (t b : Int) : gcdI b (t % b) = gcdI t b := by
  unfold gcdI
  have e : Nat.gcd b.natAbs (t % b).natAbs = Nat.gcd t.natAbs b.natAbs := by
    show Int.gcd b (t % b) = Int.gcd t b
    rw [Int.emod_def, Int.gcd_comm t b, show t - b * (t / b) = t + b * (-(t / b)) by rw [Int.mul_neg]; omega]
    simp
  rw [e]
theorem ok_law_common (B : Bl mg) (D0 : Df K mg "_law_common" s_law_common) : Cal P w K mg base 1 "_law_common" ["_law_first", "_law_second"] spCommon := by
  refine D0.cal sc_law_common (fun _ _ _ _ _ _ us hl => match us, hl with | [_, _], _ => rfl) (fun vs H Q E h => ?_) (fun f cdv A outer s H vs Q E hr h => ?_)
  · obtain ⟨t, b, rfl, _⟩ := h
    rfl
  · obtain ⟨t, b, rfl, h1, h2, q⟩ := h
    refine ⟨_, (pss_cons (ps_par (i := 2) (j := 3) rfl sc_law_common.nd rfl rfl (by decide) rfl rfl (pa_cons (pv 0) (pa_cons (pv 1) pa_nil)) (by rfl))
      (pss_cons (ps_for PassesOwn.never rfl (pi_range1 rfl B.range_ (pa_cons pe_int pa_nil)) (pg_name (i := 4) sc_law_common.nd rfl (.inl rfl)) (pss_cons (ps_if (pt_cmpR op_eq (pv 3) pe_int (nomark _)) (pss_one ps_break) pss_nil)
      (pss_one (ps_par (i := 2) (j := 3) rfl sc_law_common.nd rfl rfl (by decide) rfl rfl (pa_cons (pv 3) (pa_cons (pe_op op_mod (pe_callTy call_int1 (by rfl) B.int_ (by decide +kernel) (pa_cons (pv 2) pa_nil)) (pv 3)) pa_nil)) (by rfl)))))
      (pss_one (ps_ret (pv 2))))), ?_⟩
    walk_at "rd"
    refine ⟨_, _, ⟨rfl, rfl⟩, ?_⟩
    refine forR (n := 400) (fun R h => h) ⟨by omega, by omega⟩ (fun i σ' H' => ∃ (g z : Int) (y : Option V), σ' = [some (.int t), some (.int b), some (.int g), some (.int z), y] ∧ H' = H ∧ gcdI g z = gcdI t b ∧ 0 ≤ z ∧ z + i ≤ b ∧ (0 ≤ g ∨ 0 < z)) ⟨t, b, _, rfl, rfl, rfl, by omega, by omega, .inr h1⟩ ?_ ?_
    · rintro i σ' H' hi ⟨g, z, y, rfl, rfl, h3, h4, h5, h6⟩
      walk_at "rd"
      by_cases hz : z = 0
      · subst hz
        rw [decide_eq_true rfl]
        refine iteT ?_
        walk_at "rd"
        have e : gcdI g 0 = g := by
          unfold gcdI
          rw [show (0 : Int).natAbs = 0 from rfl, Nat.gcd_zero_right]
          omega
        rw [e] at h3
        rw [h3]
        exact q
      · rw [decide_eq_false hz]
        refine iteF ?_
        walk_at "rd"
        have h7 := Int.emod_nonneg g hz
        have h8 := Int.emod_lt_of_pos g (show 0 < z by omega)
        exact ⟨by omega, _, _, ⟨rfl, rfl⟩, z, g % z, _, ⟨rfl, rfl, rfl⟩, (gcdI_step g z).trans h3, h7, by omega, .inl h4⟩
    · rintro σ' H' ⟨g, z, y, rfl, rfl, h3, h4, h5, h6⟩
      exfalso
      omega
abbrev s_law_added : Stmt := topS 52
theorem sc_law_added : FnScope ["_law_first", "_law_second"] ["_law_first", "_law_second"] (defScope s_law_added) := ⟨rfl, rfl, rfl, by decide +kernel, rfl, by decide +kernel, by decide +kernel⟩
def PairAt (K : PySem.W.Frag) (H : Hp) (v : V) (q : Int × Int) : Prop := ∃ a, v = .ref a ∧ SqT K H a [.int q.1, .int q.2]
def addP (p q : Int × Int) : Int × Int := (p.1 * q.2 + q.1 * p.2, p.2 * q.2)
def sameP (p q : Int × Int) : Bool := decide (p.1 * q.2 = q.1 * p.2)
def lowP (p : Int × Int) : Prop := 0 < p.2 ∧ p.2 < 1000000000
def spAdded (K : PySem.W.Frag) : Sp := fun vs H Q _ => ∃ u v p q, vs = [u, v] ∧ PairAt K H u p ∧ PairAt K H v q ∧ lowP p ∧ lowP q ∧ ∀ v H', Ex H H' → PairAt K H' v (addP p q) → Q v H'
theorem ok_law_added (D0 : Df K mg "_law_added" s_law_added) : Cal P w K mg base 1 "_law_added" ["_law_first", "_law_second"] (spAdded K) := by
  refine D0.cal sc_law_added (fun _ _ _ _ _ _ us hl => match us, hl with | [_, _], _ => rfl) (fun vs H Q E h => ?_) (fun f cdv A outer s H vs Q E hr h => ?_)
  · obtain ⟨u, v, p, q, rfl, _⟩ := h
    rfl
  · obtain ⟨u, v, p, q, rfl, ⟨a, rfl, ha⟩, ⟨b, rfl, hb⟩, hp, hq, k⟩ := h
    refine ⟨_, (pss_one (ps_ret (pe_tup (pa_cons (pe_op op_add (pe_op op_mul (pe_ix (r := rIxT K) ix_tup (pv 0) pe_int (fun _ _ => rfl)) (pe_ix (r := rIxT K) ix_tup (pv 1) pe_int (fun _ _ => rfl))) (pe_op op_mul (pe_ix (r := rIxT K) ix_tup (pv 1) pe_int (fun _ _ => rfl)) (pe_ix (r := rIxT K) ix_tup (pv 0) pe_int (fun _ _ => rfl)))) (pa_cons (pe_op op_mul (pe_ix (r := rIxT K) ix_tup (pv 0) pe_int (fun _ _ => rfl)) (pe_ix (r := rIxT K) ix_tup (pv 1) pe_int (fun _ _ => rfl))) pa_nil))))), ?_⟩
    walk_at "rd"
    refine ⟨a, _, 0, _, rfl, rfl, ha, atI_nat (j := 0) rfl, ?_⟩
    refine ⟨b, _, 1, _, rfl, rfl, hb, atI_nat (j := 1) rfl, p.1, rfl, q.2, rfl, .inr ⟨by have := hq.1; omega, by have := hq.2; omega⟩, ?_⟩
    refine ⟨b, _, 0, _, rfl, rfl, hb, atI_nat (j := 0) rfl, ?_⟩
    refine ⟨a, _, 1, _, rfl, rfl, ha, atI_nat (j := 1) rfl, q.1, rfl, p.2, rfl, .inr ⟨by have := hp.1; omega, by have := hp.2; omega⟩, ?_⟩
    refine ⟨a, _, 1, _, rfl, rfl, ha, atI_nat (j := 1) rfl, ?_⟩
    refine ⟨b, _, 1, _, rfl, rfl, hb, atI_nat (j := 1) rfl, p.2, rfl, q.2, rfl, .inr ⟨by have := hq.1; omega, by have := hq.2; omega⟩, by decide, fun l hl => ?_⟩
    exact k _ _ (.new hl) ⟨l, rfl, sqT upd_same⟩
abbrev s_law_same : Stmt := topS 53
theorem sc_law_same : FnScope ["_law_first", "_law_second"] ["_law_first", "_law_second"] (defScope s_law_same) := ⟨rfl, rfl, rfl, by decide +kernel, rfl, by decide +kernel, by decide +kernel⟩
def spSame (K : PySem.W.Frag) : Sp := fun vs H Q _ => ∃ u v p q, vs = [u, v] ∧ PairAt K H u p ∧ PairAt K H v q ∧ lowP p ∧ lowP q ∧ Q (.bl (sameP p q)) H
theorem ok_law_same (D0 : Df K mg "_law_same" s_law_same) : Cal P w K mg base 1 "_law_same" ["_law_first", "_law_second"] (spSame K) := by
  refine D0.cal sc_law_same (fun _ _ _ _ _ _ us hl => match us, hl with | [_, _], _ => rfl) (fun vs H Q E h => ?_) (fun f cdv A outer s H vs Q E hr h => ?_)
  · obtain ⟨u, v, p, q, rfl, _⟩ := h
    rfl
  · obtain ⟨u, v, p, q, rfl, ⟨a, rfl, ha⟩, ⟨b, rfl, hb⟩, hp, hq, k⟩ := h
    refine ⟨_, (pss_one (ps_ret (pe_cmpR op_eq (pe_op op_mul (pe_ix (r := rIxT K) ix_tup (pv 0) pe_int (fun _ _ => rfl)) (pe_ix (r := rIxT K) ix_tup (pv 1) pe_int (fun _ _ => rfl))) (pe_op op_mul (pe_ix (r := rIxT K) ix_tup (pv 1) pe_int (fun _ _ => rfl)) (pe_ix (r := rIxT K) ix_tup (pv 0) pe_int (fun _ _ => rfl))) (nomark _)))), ?_⟩
    walk_at "rd"
    refine ⟨a, _, 0, _, rfl, rfl, ha, atI_nat (j := 0) rfl, ?_⟩
    refine ⟨b, _, 1, _, rfl, rfl, hb, atI_nat (j := 1) rfl, p.1, rfl, q.2, rfl, .inr ⟨by have := hq.1; omega, by have := hq.2; omega⟩, ?_⟩
    refine ⟨b, _, 0, _, rfl, rfl, hb, atI_nat (j := 0) rfl, ?_⟩
    refine ⟨a, _, 1, _, rfl, rfl, ha, atI_nat (j := 1) rfl, q.1, rfl, p.2, rfl, .inr ⟨by have := hp.1; omega, by have := hp.2; omega⟩, ?_⟩
    exact k
abbrev s_law_pairs_right : Stmt := topS 54
theorem sc_law_pairs_right : FnScope ["_law_pairs", "_law_top", "_law_bottom"] ["_law_pairs"] (defScope s_law_pairs_right) := ⟨rfl, rfl, rfl, by decide +kernel, rfl, by decide +kernel, by decide +kernel⟩
def okP (p : Int × Int) : Prop := 0 ≤ p.1 ∧ 0 < p.2 ∧ p.2 < 390 ∧ gcdI p.1 p.2 = 1
def spPairs (K : PySem.W.Frag) : Sp := fun vs H Q _ => ∃ l xs, vs = [.ref l] ∧ H l = some (.lst xs) ∧ (∀ x ∈ xs, ∃ p, PairAt K H x p ∧ okP p) ∧ Q (.bl true) H
theorem ok_law_pairs_right (B : Bl mg) (c_law_common : Cal P w K mg base 1 "_law_common" ["_law_first", "_law_second"] spCommon) (D0 : Df K mg "_law_pairs_right" s_law_pairs_right) : Cal P w K mg base 2 "_law_pairs_right" ["_law_pairs"] (spPairs K) := by
  refine D0.cal sc_law_pairs_right (fun _ _ _ _ _ _ us hl => match us, hl with | [_], _ => rfl) (fun vs H Q E h => ?_) (fun f cdv A outer s H vs Q E hr h => ?_)
  · obtain ⟨l, xs, rfl, _⟩ := h
    rfl
  · obtain ⟨l, xs, rfl, hl, hx, q⟩ := h
    refine ⟨_, (pss_cons (ps_for PassesOwn.never rfl (pi_list (pv 0)) (pg_tup rfl (pgs_cons (pg_name (i := 1) sc_law_pairs_right.nd rfl (.inl rfl)) (pgs_cons (pg_name (i := 2) sc_law_pairs_right.nd rfl (.inl rfl)) pgs_nil))) (pss_cons (ps_if (PW.pt (pw_or (pt_val (pe_callB (r := rIsi K) call_isi (by rfl) B.isinstance_ (by decide +kernel) (pa_cons (pv 1) (pa_cons (pe_bltn (by rfl) B.bool_ (by decide +kernel) (v := .ty "bool") rfl) pa_nil)))) (pw_or (pt_val (pe_callB (r := rIsi K) call_isi (by rfl) B.isinstance_ (by decide +kernel) (pa_cons (pv 2) (pa_cons (pe_bltn (by rfl) B.bool_ (by decide +kernel) (v := .ty "bool") rfl) pa_nil)))) (pw_or (pt_cmpR op_lt (pv 1) pe_int (nomark _)) (pw_or1 (pt_cmpR op_lt (pv 2) pe_int (nomark _))))))) (pss_one (ps_ret pe_bl)) pss_nil)
      (pss_one (ps_if (pt_cmpR (r := rNeD K) (op_neD hr.units) (pe_cal c_law_common hr (by decide) rfl (pa_cons (pv 1) (pa_cons (pv 2) pa_nil))) pe_int (nomark _)) (pss_one (ps_ret pe_bl)) pss_nil))))
      (pss_one (ps_ret pe_bl))), ?_⟩
    walk_at "rd"
    refine forLs (a := l) (xs := xs) (fun R h => ⟨_, rfl, h⟩) (sqL hl) (fun i σ' H' => ∃ y z, σ' = [some (.ref l), y, z] ∧ H' = H) ⟨_, _, rfl, rfl⟩ (fun i σ' H' p => by
      obtain ⟨_, _, _, rfl⟩ := p
      exact sqL hl) ?_ ?_
    · rintro i x σ' H' hi ⟨y, z, rfl, rfl⟩
      obtain ⟨p, ⟨a, rfl, ha⟩, h1, h2, h3, h4⟩ := hx x (List.mem_of_getElem? hi)
      walk_at "rd"
      refine ⟨_, ha, rfl, _, _, rfl, _, _, rfl, rfl, ?_⟩
      walk_at "rd"
      refine isi_bl (tyd_int _) ?_
      walk_at "rd"
      refine isi_bl (tyd_int _) ?_
      walk_at "rd"
      rw [decide_eq_false (show ¬ p.fst < 0 by omega), decide_eq_false (show ¬ p.snd < 1 by omega)]
      walk_at "rd"
      refine ⟨_, _, rfl, h2, h3, ?_⟩
      rw [h4]
      refine ⟨.int 1, .int 1, .int 1, .int 1, by decide, by decide, _, rfl, ?_⟩
      refine iteF ?_
      exact ⟨_, _, ⟨rfl, rfl⟩, rfl⟩
    · rintro σ' H' ⟨y, z, rfl, rfl⟩
      exact q
end
end K11

namespace K11
open PySem PySem.Spec PyProof.Rows L2 Z ZE
local macro_rules | `(tactic| walk_at "rd") => `(tactic| try simp only [cxOf, tSeq, tIfS, tRet, tRetN, tAsg, tDrop, tNext, tBreak, tCont, tNever, tPar, tPar3, tAug, gName, gTup, gCons, gNil, gSub, tVar, tC, tOp, tUn, tCB, tBM, tBM0, tCons, tNil, tTest, tB, tAnd, tOr, tNot, tAndV, tOrV, tNotV, tIf, tChain,
  tTup, tLst, tCall, tMeth, tSl, tPart, tNoPart, tM1, tFmt, tJs_nil, tJs_cons, tCKw, rI0, rI, rU, rEq, rNe, scal_ii, scal_ss, scal_bb, ipI, iStr, iTup, iList, iRng1, sFld, tFld, L2.start, List.getElem?_cons_zero, List.getElem?_cons_succ, List.set_cons_zero, List.set_cons_succ, Option.some.injEq, V.int.injEq, V.bl.injEq, V.str.injEq, V.ref.injEq,
  List.cons.injEq, exists_and_left, exists_eq_left', exists_eq_left, exists_eq_right, exists_eq_right', exists_eq', exists_eq, and_true, true_and, and_self, List.map_cons, List.map_nil, List.length_cons, List.length_nil, List.replicate_succ, List.replicate_zero, List.cons_append, List.nil_append, List.append_nil,
  Nat.add_sub_cancel, Nat.reduceAdd, Nat.reduceSub, if_true, if_false, ite_true, ite_false, Bool.not_true, Bool.not_false, Bool.true_eq_false, Bool.false_eq_true, reduceIte, reduceCtorEq, false_and, exists_false, or_false, false_or, decide_true, decide_false, wipe])

/-! ### arithmetic of what is due -/
theorem gcdI_dvd_l (X S : Int) : gcdI X S ∣ X := Int.gcd_dvd_left ..
theorem gcdI_dvd_r (X S : Int) : gcdI X S ∣ S := Int.gcd_dvd_right ..
theorem low_eq (X S : Int) : (lowest X S).1 * S = X * (lowest X S).2 := by
  show X / gcdI X S * S = X * (S / gcdI X S)
  obtain ⟨a, ha⟩ := gcdI_dvd_l X S
  obtain ⟨b, hb⟩ := gcdI_dvd_r X S
  generalize gcdI X S = g at ha hb
  by_cases hg : g = 0
  · subst hg
    simp
  · subst ha hb
    rw [Int.mul_ediv_cancel_left _ hg, Int.mul_ediv_cancel_left _ hg, ← Int.mul_assoc, Int.mul_comm a g]
theorem low_b {X S : Int} (h : 0 < S) : 0 < (lowest X S).2 ∧ (lowest X S).2 ≤ S := by
  show 0 < S / gcdI X S ∧ S / gcdI X S ≤ S
  have g1 := gcdI_pos (t := X) h
  obtain ⟨b, hb⟩ := gcdI_dvd_r X S
  generalize gcdI X S = g at g1 hb
  subst hb
  rw [Int.mul_ediv_cancel_left _ (by omega)]
  have hb0 : 0 < b := by
    rcases Int.lt_trichotomy b 0 with q | q | q
    · have := Int.mul_neg_of_pos_of_neg g1 q
      omega
    · rw [q] at h
      simp at h
    · exact q
  refine ⟨hb0, ?_⟩
  have := Int.mul_le_mul_of_nonneg_right (show 1 ≤ g by omega) (show 0 ≤ b by omega)
  omega
theorem low_ok {X S : Int} (hX : 0 ≤ X) (h : 0 < S) (h9 : S ≤ 9) : okP (lowest X S) := by
  obtain ⟨b1, b2⟩ := low_b (X := X) h
  refine ⟨Int.ediv_nonneg hX (Int.le_of_lt (gcdI_pos h)), b1, by omega, ?_⟩
  show gcdI (X / gcdI X S) (S / gcdI X S) = 1
  obtain ⟨a, rfl⟩ := Int.eq_ofNat_of_zero_le hX
  obtain ⟨b, rfl⟩ := Int.eq_ofNat_of_zero_le (Int.le_of_lt h)
  have hb : 0 < b := by omega
  have hg : 0 < Nat.gcd a b := Nat.gcd_pos_of_pos_right _ hb
  have e : gcdI (a : Int) (b : Int) = ((Nat.gcd a b : Nat) : Int) := rfl
  rw [e]
  show ((Nat.gcd ((a : Int) / (Nat.gcd a b : Nat)).natAbs ((b : Int) / (Nat.gcd a b : Nat)).natAbs : Nat) : Int) = 1
  have e1 : ((a : Int) / (Nat.gcd a b : Nat)).natAbs = a / Nat.gcd a b := by
    rw [← Int.natCast_ediv]
    rfl
  have e2 : ((b : Int) / (Nat.gcd a b : Nat)).natAbs = b / Nat.gcd a b := by
    rw [← Int.natCast_ediv]
    rfl
  rw [e1, e2, Nat.gcd_div (Nat.gcd_dvd_left a b) (Nat.gcd_dvd_right a b), Nat.div_self hg]
  rfl
theorem cancelS {S u v : Int} (h : 0 < S) (e : u * S = v * S) : u = v := Int.eq_of_mul_eq_mul_right (by omega) e
/-- the pair due -/
def dq (o : Od) (n : Int) (p : Pn) (j : Nat) : Int × Int := lowest (n * worth o.ks j * p.s) (shares o.ps)
theorem sum_ok {S T B t b N s c : Int} (h1 : T * S = N * s * B) (h2 : t * S = N * c * b) : (T * b + t * B) * S = N * (s + c) * (B * b) := by
  have e1 : (T * b + t * B) * S = T * S * b + t * S * B := by
    rw [Int.add_mul, Int.mul_right_comm T b S, Int.mul_right_comm t B S]
  rw [e1, h1, h2]
  rw [Int.mul_add, Int.add_mul]
  congr 1
  · rw [Int.mul_assoc (N * s) B b]
  · rw [Int.mul_assoc (N * c) b B, Int.mul_comm b B]
theorem add_ok {S t1 b1 t2 b2 t3 b3 X1 X2 : Int} (hS : 0 < S) (h1 : t1 * S = X1 * b1) (h2 : t2 * S = X2 * b2) (h3 : t3 * S = (X1 + X2) * b3) : (t1 * b2 + t2 * b1) * b3 = t3 * (b1 * b2) := by
  refine cancelS hS ?_
  have e1 : (t1 * b2 + t2 * b1) * b3 * S = t1 * S * (b2 * b3) + t2 * S * (b1 * b3) := by
    simp only [Int.add_mul, Int.mul_add, Int.mul_assoc, Int.mul_comm, Int.mul_left_comm]
  have e2 : t3 * (b1 * b2) * S = t3 * S * (b1 * b2) := by
    simp only [Int.mul_assoc, Int.mul_comm, Int.mul_left_comm]
  rw [e1, e2, h1, h2, h3]
  simp only [Int.add_mul, Int.mul_add, Int.mul_assoc, Int.mul_comm, Int.mul_left_comm]
theorem prop_ok {S t b t0 b0 N s s0 : Int} (hS : 0 < S) (h1 : t * S = N * s * b) (h2 : t0 * S = N * s0 * b0) : t * s0 * b0 = t0 * s * b := by
  refine cancelS hS ?_
  have e1 : t * s0 * b0 * S = t * S * (s0 * b0) := by
    simp only [Int.mul_assoc, Int.mul_comm, Int.mul_left_comm]
  have e2 : t0 * s * b * S = t0 * S * (s * b) := by
    simp only [Int.mul_assoc, Int.mul_comm, Int.mul_left_comm]
  rw [e1, e2, h1, h2]
  simp only [Int.mul_assoc, Int.mul_comm, Int.mul_left_comm]
section
variable {K : PySem.W.Frag} {H : Hp}
theorem due_rows {v : V} {o : Od} {n : Int} (h : DT K H v (dueD o n)) : ∃ a xs, v = .ref a ∧ SqT K H a xs ∧ xs.length = o.ps.length ∧ ∀ (i : Nat) (x : V), xs[i]? = some x → ∃ p, o.ps[i]? = some p ∧ DT K H x (.tup ((dueP o n p).map Z.pairD)) := by
  have h' : DT K H v (.tup (o.ps.map fun p => .tup ((dueP o n p).map Z.pairD))) := h
  cases h' with
  | tup hS hs => exact ⟨_, _, rfl, hS, hs.lenM, fun i x hx => hs.getM hx⟩
theorem due_pair {v : V} {o : Od} {n : Int} {p : Pn} {j : Nat} (h : DT K H v (.tup ((dueP o n p).map Z.pairD))) (hj : j < o.ms.length) : ∃ a ys y, v = .ref a ∧ SqT K H a ys ∧ ys[j]? = some y ∧ PairAt K H y (dq o n p j) := by
  cases h with
  | tup hS hs =>
    rename_i a ys
    have hl := hs.lenM
    have hl2 : (dueP o n p).length = o.ms.length := by rw [dueP, List.length_map, List.length_range]
    have hjy : j < ys.length := by omega
    obtain ⟨q, q1, q2⟩ := hs.getM (List.getElem?_eq_getElem hjy)
    rw [dueP, List.getElem?_map, List.getElem?_range hj] at q1
    cases q1
    obtain ⟨b, hb1, hb2⟩ := q2.pair
    exact ⟨a, ys, _, rfl, hS, List.getElem?_eq_getElem hjy, b, hb1, hb2⟩
theorem due_at {v : V} {o : Od} {n : Int} {p : Pn} {i j : Nat} (h : DT K H v (dueD o n)) (hp : o.ps[i]? = some p) (hj : j < o.ms.length) :
    ∃ a xs b ys y, v = .ref a ∧ SqT K H a xs ∧ xs[i]? = some (.ref b) ∧ SqT K H b ys ∧ ys[j]? = some y ∧ PairAt K H y (dq o n p j) := by
  obtain ⟨a, xs, rfl, h1, h2, h3⟩ := due_rows h
  have hi : i < xs.length := by
    rw [h2]
    exact (List.getElem?_eq_some_iff.mp hp).1
  obtain ⟨p', h4, h5⟩ := h3 i _ (List.getElem?_eq_getElem hi)
  rw [hp] at h4
  cases h4
  obtain ⟨b, ys, y, h6, h7, h8, h9⟩ := due_pair h5 hj
  exact ⟨a, xs, b, ys, y, rfl, h1, by rw [List.getElem?_eq_getElem hi, h6], h7, h8, h9⟩
theorem PairAt.mono {H' : Hp} {m : Addr → Prop} {u : V} {q : Int × Int} (h : PairAt K H u q) (e : Gr m H H') : PairAt K H' u q := by
  obtain ⟨a, h1, h2⟩ := h
  exact ⟨a, h1, e.seqT h2⟩
end
theorem shares_snoc (l : List Pn) (p : Pn) : shares (l ++ [p]) = shares l + p.s := by
  unfold shares
  rw [List.map_append, List.sum_append]
  simp
theorem pow9 (m : Nat) (hm : m ≤ 3) : (9 : Int) ^ m ≤ 729 := by
  have h : m = 0 ∨ m = 1 ∨ m = 2 ∨ m = 3 := by omega
  rcases h with rfl | rfl | rfl | rfl <;> decide
section
variable {P : Program} {w : World} {K : PySem.W.Frag} {mg : Str → Option Value} {base : Heap} {C : Addr}
abbrev s_law_place_right : Stmt := topS 55
theorem sc_law_place_right : FnScope ["_law_parts_here", "_law_place", "_law_numbers_here", "_law_told", "_law_crowd", "_law_row", "_law_box", "_law_k", "_law_entire", "_law_at", "_law_mine", "_law_first"] ["_law_parts_here", "_law_place", "_law_numbers_here", "_law_told"] (defScope s_law_place_right) := ⟨rfl, rfl, rfl, by decide +kernel, rfl, by decide +kernel, by decide +kernel⟩
def spPlace (K : PySem.W.Frag) : Sp := fun vs H Q _ => ∃ x nl tl, ∃ (o : Od) (j : Nat) (ns : List Int) (ts : List V), vs = [.ref x, .int (j : Int), .ref nl, .ref tl] ∧ TupAt K H x o ∧ j < o.ms.length ∧ H nl = some (.lst (ns.map V.int)) ∧ H tl = some (.lst ts) ∧
  (∃ n1 n2 v1 v2 v3, ns = [n1, n2, n1 + n2] ∧ ts = [v1, v2, v3]) ∧ (∀ n ∈ ns, 0 ≤ n) ∧ (∀ (i : Nat) (n : Int) (v : V), ns[i]? = some n → ts[i]? = some v → DT K H v (dueD o n)) ∧ ∀ H', Ex H H' → Q (.bl true) H'
theorem ok_law_place_right (B : Bl mg) (c_law_same : Cal P w K mg base 1 "_law_same" ["_law_first", "_law_second"] (spSame K)) (c_law_added : Cal P w K mg base 1 "_law_added" ["_law_first", "_law_second"] (spAdded K))
    (c_law_pairs_right : Cal P w K mg base 2 "_law_pairs_right" ["_law_pairs"] (spPairs K)) (D0 : Df K mg "_law_place_right" s_law_place_right) : Cal P w K mg base 3 "_law_place_right" ["_law_parts_here", "_law_place", "_law_numbers_here", "_law_told"] (spPlace K) := by
  refine D0.cal sc_law_place_right (fun _ _ _ _ _ _ us hl => match us, hl with | [_, _, _, _], _ => rfl) (fun vs H Q E h => ?_) (fun f cdv A outer s H vs Q E hr h => ?_)
  · obtain ⟨x, nl, tl, o, j, ns, ts, rfl, _⟩ := h
    rfl
  · obtain ⟨x, nl, tl, o, j, ns, ts, rfl, ⟨a, b, c, hx, hp⟩, hj, hnl, htl, ⟨n1, n2, v1, v2, v3, hns, hts⟩, hn0, hdue, q⟩ := h
    refine ⟨_, (pss_cons (ps_set (i := 4) sc_law_place_right.nd rfl (.inl rfl) (pe_ix (r := rIxT K) ix_tup (pv 0) pe_int (fun _ _ => rfl)))
      (pss_cons (ps_set (i := 6) sc_law_place_right.nd rfl (.inl rfl) (pe_callB (r := rSum K) (cr_sum rfl) (by rfl) B.sum_ (by decide +kernel) (pa_cons (pe_lc (own := [("_law_row", 5)]) (g := gName 5) rfl sc_law_place_right.nd (pi_tup (pe_ix (r := rIxT K) ix_tup (pv 0) pe_int (fun _ _ => rfl))) (blkOk_by (N := ["_law_parts_here", "_law_place", "_law_numbers_here", "_law_told", "_law_crowd", "_law_row", "_law_box", "_law_k", "_law_entire", "_law_at", "_law_mine", "_law_first"]) (sc := defScope s_law_place_right) (by decide +kernel)) (fun _ _ _ _ _ => (pg_name (i := 5) sc_law_place_right.nd rfl (.inl rfl))) (fun _ _ _ _ _ => pts_nil) (fun _ _ _ _ _ => (pe_op op_mul (pe_ix (r := rIxT K) ix_tup (pv 5) pe_int (fun _ _ => rfl)) (pe_ix (r := rIxT K) ix_tup (pe_ix (r := rIxT K) ix_tup (pv 5) pe_int (fun _ _ => rfl)) (pv 1) (fun _ _ => rfl))))) pa_nil)))
      (pss_cons (ps_for PassesOwn.never rfl (pi_range1 rfl B.range_ (pa_cons pe_int pa_nil)) (pg_name (i := 7) sc_law_place_right.nd rfl (.inl rfl)) (pss_cons (ps_set (i := 8) sc_law_place_right.nd rfl (.inl rfl) (pe_tup (pa_cons pe_int (pa_cons pe_int pa_nil))))
      (pss_cons (ps_for PassesOwn.never rfl (pi_tup (pe_ix (r := rIxL K) ix_list (pv 3) (pv 7) (fun _ _ => rfl))) (pg_name (i := 5) sc_law_place_right.nd rfl (.inl rfl)) (pss_one (ps_set (i := 8) sc_law_place_right.nd rfl (.inl rfl) (pe_cal c_law_added hr (by decide) rfl (pa_cons (pv 8) (pa_cons (pe_ix (r := rIxT K) ix_tup (pv 5) (pv 1) (fun _ _ => rfl)) pa_nil))))))
      (pss_cons (ps_if (pt_not (pt_val (pe_cal c_law_same hr (by decide) rfl (pa_cons (pv 8) (pa_cons (pe_tup (pa_cons (pe_op op_mul (pe_ix (r := rIxL K) ix_list (pv 2) (pv 7) (fun _ _ => rfl)) (pv 6)) (pa_cons pe_int pa_nil))) pa_nil))))) (pss_one (ps_ret pe_bl)) pss_nil)
      (pss_one (ps_if (pt_not (pt_val (pe_cal c_law_pairs_right hr (by decide) rfl (pa_cons (pe_lc (own := [("_law_row", 5)]) (g := gName 5) rfl sc_law_place_right.nd (pi_tup (pe_ix (r := rIxL K) ix_list (pv 3) (pv 7) (fun _ _ => rfl))) (blkOk_by (N := ["_law_parts_here", "_law_place", "_law_numbers_here", "_law_told", "_law_crowd", "_law_row", "_law_box", "_law_k", "_law_entire", "_law_at", "_law_mine", "_law_first"]) (sc := defScope s_law_place_right) (by decide +kernel)) (fun _ _ _ _ _ => (pg_name (i := 5) sc_law_place_right.nd rfl (.inl rfl))) (fun _ _ _ _ _ => pts_nil) (fun _ _ _ _ _ => (pe_ix (r := rIxT K) ix_tup (pv 5) (pv 1) (fun _ _ => rfl)))) pa_nil)))) (pss_one (ps_ret pe_bl)) pss_nil))))))
      (pss_cons (ps_for PassesOwn.never rfl (pi_range1 rfl B.range_ (pa_cons (pe_callB (r := rLenQ K) call_len_seq (by rfl) B.len_ PySem.boot_len (pa_cons (pv 4) pa_nil)) pa_nil)) (pg_name (i := 9) sc_law_place_right.nd rfl (.inl rfl)) (pss_cons (ps_if (pt_not (pt_val (pe_cal c_law_same hr (by decide) rfl (pa_cons (pe_cal c_law_added hr (by decide) rfl (pa_cons (pe_ix (r := rIxT K) ix_tup (pe_ix (r := rIxT K) ix_tup (pe_ix (r := rIxL K) ix_list (pv 3) pe_int (fun _ _ => rfl)) (pv 9) (fun _ _ => rfl)) (pv 1) (fun _ _ => rfl)) (pa_cons (pe_ix (r := rIxT K) ix_tup (pe_ix (r := rIxT K) ix_tup (pe_ix (r := rIxL K) ix_list (pv 3) pe_int (fun _ _ => rfl)) (pv 9) (fun _ _ => rfl)) (pv 1) (fun _ _ => rfl)) pa_nil))) (pa_cons (pe_ix (r := rIxT K) ix_tup (pe_ix (r := rIxT K) ix_tup (pe_ix (r := rIxL K) ix_list (pv 3) pe_int (fun _ _ => rfl)) (pv 9) (fun _ _ => rfl)) (pv 1) (fun _ _ => rfl)) pa_nil))))) (pss_one (ps_ret pe_bl)) pss_nil)
      (pss_cons (ps_par (i := 10) (j := 11) rfl sc_law_place_right.nd rfl rfl (by decide) rfl rfl (pa_cons (pe_ix (r := rIxT K) ix_tup (pe_ix (r := rIxT K) ix_tup (pe_ix (r := rIxL K) ix_list (pv 3) pe_int (fun _ _ => rfl)) (pv 9) (fun _ _ => rfl)) (pv 1) (fun _ _ => rfl)) (pa_cons (pe_ix (r := rIxT K) ix_tup (pe_ix (r := rIxT K) ix_tup (pe_ix (r := rIxL K) ix_list (pv 3) pe_int (fun _ _ => rfl)) pe_int (fun _ _ => rfl)) (pv 1) (fun _ _ => rfl)) pa_nil)) (by rfl))
      (pss_one (ps_if (pt_not (pt_val (pe_cal c_law_same hr (by decide) rfl (pa_cons (pe_tup (pa_cons (pe_op op_mul (pe_ix (r := rIxT K) ix_tup (pv 10) pe_int (fun _ _ => rfl)) (pe_ix (r := rIxT K) ix_tup (pe_ix (r := rIxT K) ix_tup (pv 4) pe_int (fun _ _ => rfl)) pe_int (fun _ _ => rfl))) (pa_cons (pe_ix (r := rIxT K) ix_tup (pv 10) pe_int (fun _ _ => rfl)) pa_nil))) (pa_cons (pe_tup (pa_cons (pe_op op_mul (pe_ix (r := rIxT K) ix_tup (pv 11) pe_int (fun _ _ => rfl)) (pe_ix (r := rIxT K) ix_tup (pe_ix (r := rIxT K) ix_tup (pv 4) (pv 9) (fun _ _ => rfl)) pe_int (fun _ _ => rfl))) (pa_cons (pe_ix (r := rIxT K) ix_tup (pv 11) pe_int (fun _ _ => rfl)) pa_nil))) pa_nil))))) (pss_one (ps_ret pe_bl)) pss_nil)))))
      (pss_one (ps_ret pe_bl)))))), ?_⟩
    have ho := hp.ok
    obtain ⟨kx, hK, hKs⟩ := hp.k
    obtain ⟨px, hP, hPs⟩ := hp.p
    have hkl := hKs.lenM
    have hpl := hPs.lenM
    have hk4 := ho.k1
    have hp3 := ho.p1
    have hsb := shares_bound (fun p hp => (ho.p3 p hp).s) ⟨by omega, hp3.2⟩
    have hwb := worth_bound ho.k2 ho.k1.2 j
    walk_at "rd"
    refine ⟨x, _, 2, _, rfl, rfl, hx, atI_nat (j := 2) rfl, ?_⟩
    walk_at "rd"
    refine lcTf (a := b) (xs := kx) (fun R h => ⟨_, rfl, x, _, 1, _, rfl, rfl, hx, atI_nat (j := 1) rfl, h⟩) hK (by omega) ((o.ks.map fun k => k.c * k.w.getD j 0).map V.int) (by rw [List.length_map, List.length_map, hkl]) ?_ ?_
    · intro i y z H' Q' hy hz' e q'
      obtain ⟨k, h1, h2⟩ := hKs.getM hy
      rw [List.map_map, List.getElem?_map, h1] at hz'
      cases hz'
      have hok := ho.k2 k (List.mem_of_getElem? h1)
      obtain ⟨p, b', rfl, h3, h4⟩ := (h2.mono e.any).kd
      have hjl : j < k.w.length := by rw [hok.l]; exact hj
      have hg : k.w.getD j 0 = k.w[j] := by rw [List.getD_eq_getElem?_getD, List.getElem?_eq_getElem hjl]; rfl
      walk_at "rd"
      refine ⟨p, _, 1, _, rfl, rfl, h3, atI_nat (j := 1) rfl, ?_⟩
      refine ⟨p, _, 2, _, rfl, rfl, h3, atI_nat (j := 2) rfl, ?_⟩
      refine ⟨b', _, (j : Int), .int (k.w.getD j 0), rfl, rfl, h4, atI_nat (by rw [List.getElem?_map, List.getElem?_eq_getElem hjl, hg]; rfl), ?_⟩
      walk_at "rd"
      have hc := hok.c
      exact ⟨.inl ⟨by omega, by omega⟩, q' H' .refl⟩
    · intro D1 H1 hD e1 h1
      refine ⟨D1, _, rfl, sqL h1, ?_⟩
      refine forR (n := 3) (fun R h => h) ⟨by omega, by omega⟩ (fun i σ' H' => ∃ y5 y7 y8, σ' = [some (.ref x), some (.int (j : Int)), some (.ref nl), some (.ref tl), some (.ref c), y5, some (.int (worth o.ks j)), y7, y8, none, none, none] ∧ Ex H H') ⟨_, _, _, rfl, e1⟩ ?_ ?_
      · rintro i σ' H2 hi ⟨y5, y7, y8, rfl, e2⟩
        obtain ⟨n, v, hin, hiv⟩ : ∃ n v, ns[i]? = some n ∧ ts[i]? = some v := by
          rw [hns, hts]
          have hi3 : i = 0 ∨ i = 1 ∨ i = 2 := by omega
          rcases hi3 with rfl | rfl | rfl <;> exact ⟨_, _, rfl, rfl⟩
        have hd := hdue i n v hin hiv
        have hn := hn0 n (List.mem_of_getElem? hin)
        walk_at "rd"
        refine ⟨by decide, fun T hT => ?_⟩
        have e3 : Ex H (upd H2 T (.tup [.int 0, .int 1])) := e2.trans (.new hT)
        obtain ⟨ra, xs, hva, r1, r2, r3⟩ := due_rows (hd.mono e3.any)
        subst hva
        refine forTp (a := ra) (xs := xs) (fun R h => ⟨_, rfl, _, rfl, tl, _, i, _, rfl, rfl, sqL (e3.get htl), atI_nat hiv, h⟩) r1 (fun m σ' H' => ∃ y5 u q, σ' = [some (.ref x), some (.int (j : Int)), some (.ref nl), some (.ref tl), some (.ref c), y5, some (.int (worth o.ks j)), some (.int (i : Int)), some u, none, none, none] ∧ Ex H H' ∧ Gr any (upd H2 T (.tup [.int 0, .int 1])) H' ∧ PairAt K H' u q ∧ q.1 * shares o.ps = n * worth o.ks j * shares (o.ps.take m) * q.2 ∧ 0 < q.2 ∧ q.2 ≤ 9 ^ m)
          ⟨_, _, (0, 1), rfl, e3, .refl, ⟨T, rfl, sqT upd_same⟩, by simp [shares], by decide, by decide⟩ (fun m σ' H' p => by
            obtain ⟨_, _, _, _, _, e, _⟩ := p
            exact e.seqT r1) ?_ ?_
        · rintro m x' σ' H3 hx' ⟨y5, u, q', rfl, e4, e5, hP', hq1, hq2, hq3⟩
          obtain ⟨p, hp1, hp2⟩ := r3 m x' hx'
          obtain ⟨a', ys, y, rfl, d1, d2, d3⟩ := due_pair (hp2.mono e5) hj
          walk_at "rd"
          have hm : m < o.ps.length := (List.getElem?_eq_some_iff.mp hp1).1
          have h93 := pow9 m (by omega)
          have hlow := low_b (X := n * worth o.ks j * p.s) (S := shares o.ps) (by omega)
          have hle := low_eq (n * worth o.ks j * p.s) (shares o.ps)
          refine ⟨a', ys, (j : Int), y, rfl, rfl, d1, atI_nat d2, ?_⟩
          refine ⟨u, y, q', dq o n p j, rfl, hP', d3, ⟨hq2, by omega⟩, ⟨hlow.1, by have := hlow.2; show (lowest _ _).2 < 1000000000; omega⟩, fun v4 H4 e6 h4 => ?_⟩
          walk_at "rd"
          refine ⟨_, _, ⟨rfl, rfl⟩, e4.trans e6, e5.trans e6.any, addP q' (dq o n p j), h4, ?_, Int.mul_pos hq2 hlow.1, ?_⟩
          · rw [take_snoc hp1, shares_snoc]
            exact sum_ok hq1 hle
          · show q'.2 * (lowest _ _).2 ≤ 9 ^ (m + 1)
            rw [Int.pow_succ]
            exact Int.mul_le_mul hq3 (by have := hlow.2; omega) (Int.le_of_lt hlow.1) (by have := pow9 m (by omega); omega)
        · rintro σ' H3 ⟨y5, u, q', rfl, e4, e5, hP', hq1, hq2, hq3⟩
          rw [r2, List.take_length] at hq1
          rw [r2] at hq3
          have h97 := pow9 o.ps.length hp3.2
          walk_at "rd"
          refine ⟨nl, _, (i : Int), _, rfl, rfl, sqL (e4.get hnl), atI_nat (by rw [List.getElem?_map, hin]; rfl), n, rfl, .inr ⟨by omega, by omega⟩, by decide, fun T2 hT2 => ?_⟩
          have eT2 : Ex H3 (upd H3 T2 (.tup [.int (n * worth o.ks j), .int 1])) := .new hT2
          refine ⟨u, _, q', (n * worth o.ks j, 1), rfl, hP'.mono eT2, ⟨T2, rfl, sqT upd_same⟩, ⟨hq2, by omega⟩, ⟨by show (0 : Int) < 1; decide, by show (1 : Int) < 1000000000; decide⟩, _, rfl, ?_⟩
          have es : sameP q' (n * worth o.ks j, 1) = true := decide_eq_true (by
            show q'.1 * 1 = n * worth o.ks j * q'.2
            rw [Int.mul_one]
            refine cancelS (S := shares o.ps) (by omega) ?_
            rw [hq1, Int.mul_right_comm])
          rw [es]
          refine iteF ?_
          have e7 := e4.trans eT2
          have e8 := e5.trans eT2.any
          refine lcT0 (a := ra) (xs := xs) (fun R h => ⟨_, rfl, _, rfl, tl, _, i, _, rfl, rfl, sqL (e7.get htl), atI_nat hiv, h⟩) (e8.seqT r1) (by omega) (fun m y H' => ∃ p, p ∈ o.ps ∧ PairAt K H' y (dq o n p j))
            (fun m y H1 H2 ⟨p, h1, h2⟩ e => ⟨p, h1, h2.mono e⟩) ?_ ?_
          · intro m x' H4 Q' hx' e9 q'
            obtain ⟨p, hp1, hp2⟩ := r3 m x' hx'
            obtain ⟨a', ys, y, rfl, d1, d2, d3⟩ := due_pair (hp2.mono (e8.trans e9.any)) hj
            walk_at "rd"
            exact ⟨a', ys, (j : Int), y, rfl, rfl, d1, atI_nat d2, q' _ H4 .refl ⟨p, List.mem_of_getElem? hp1, d3⟩⟩
          · intro D2 ys H4 hD2 e9 k1 k2 k3
            refine ⟨D2, ys, rfl, k1, fun y hy => ?_, true, rfl, iteF ?_⟩
            · obtain ⟨m, hm1, hm2⟩ := List.getElem_of_mem hy
              obtain ⟨p, k4, k5⟩ := k3 m y (by rw [List.getElem?_eq_getElem hm1, hm2])
              have hs := (ho.p3 p k4).s
              exact ⟨_, k5, low_ok (Int.mul_nonneg (Int.mul_nonneg hn hwb.1) (by omega)) (by omega) hsb.2⟩
            · exact ⟨_, _, _, ⟨rfl, rfl, rfl⟩, e7.trans e9⟩
      · rintro σ' H2 ⟨y5, y7, y8, rfl, e2⟩
        walk_at "rd"
        refine forR (n := (px.length : Int)) (fun R h => ⟨_, rfl, c, px, rfl, .inr (e2.seqT hP), h⟩) ⟨by omega, by omega⟩ (fun i σ' H' => ∃ y5 y7 y8 y9 y10 y11, σ' = [some (.ref x), some (.int (j : Int)), some (.ref nl), some (.ref tl), some (.ref c), y5, some (.int (worth o.ks j)), y7, y8, y9, y10, y11] ∧ Ex H H') ⟨_, _, _, _, _, _, rfl, e2⟩ ?_ ?_
        · rintro i σ' H3 hi ⟨y5, y7, y8, y9, y10, y11, rfl, e3⟩
          walk_at "rd"
          subst hns hts
          have hip : i < o.ps.length := by omega
          obtain ⟨p, hpi⟩ : ∃ p, o.ps[i]? = some p := ⟨_, List.getElem?_eq_getElem hip⟩
          obtain ⟨p0, hp0⟩ : ∃ p, o.ps[0]? = some p := ⟨_, List.getElem?_eq_getElem (by omega)⟩
          have hps := (ho.p3 p (List.mem_of_getElem? hpi)).s
          have hps0 := (ho.p3 p0 (List.mem_of_getElem? hp0)).s
          have lowp : ∀ n p, lowP (dq o n p j) := fun n p => by
            have := low_b (X := n * worth o.ks j * p.s) (S := shares o.ps) (by omega)
            exact ⟨this.1, by show (lowest _ _).2 < 1000000000; omega⟩
          obtain ⟨a1, xs1, b1, ys1, y1, rfl, A1, A2, A3, A4, A5⟩ := due_at ((hdue 0 n1 v1 rfl rfl).mono e3.any) hpi hj
          obtain ⟨a2, xs2, b2, ys2, y2, rfl, B1, B2, B3, B4, B5⟩ := due_at ((hdue 1 n2 v2 rfl rfl).mono e3.any) hpi hj
          obtain ⟨a3, xs3, b3, ys3, y3, rfl, C1, C2, C3, C4, C5⟩ := due_at ((hdue 2 (n1 + n2) v3 rfl rfl).mono e3.any) hpi hj
          obtain ⟨a4, xs4, b4, ys4, y4, he, F1, F2, F3, F4, F5⟩ := due_at ((hdue 2 (n1 + n2) _ rfl rfl).mono e3.any) hp0 hj
          cases he
          refine ⟨tl, _, 0, _, rfl, rfl, sqL (e3.get htl), atI_nat (j := 0) rfl, ?_⟩
          refine ⟨a1, xs1, (i : Int), _, rfl, rfl, A1, atI_nat A2, ?_⟩
          refine ⟨b1, ys1, (j : Int), y1, rfl, rfl, A3, atI_nat A4, ?_⟩
          refine ⟨tl, _, 1, _, rfl, rfl, sqL (e3.get htl), atI_nat (j := 1) rfl, ?_⟩
          refine ⟨a2, xs2, (i : Int), _, rfl, rfl, B1, atI_nat B2, ?_⟩
          refine ⟨b2, ys2, (j : Int), y2, rfl, rfl, B3, atI_nat B4, ?_⟩
          refine ⟨y1, y2, _, _, rfl, A5, B5, lowp _ _, lowp _ _, fun u H4 e4 hu => ?_⟩
          have e34 := e3.trans e4
          refine ⟨tl, _, 2, _, rfl, rfl, sqL (e34.get htl), atI_nat (j := 2) rfl, ?_⟩
          refine ⟨a3, xs3, (i : Int), _, rfl, rfl, e4.seqT C1, atI_nat C2, ?_⟩
          refine ⟨b3, ys3, (j : Int), y3, rfl, rfl, e4.seqT C3, atI_nat C4, ?_⟩
          have hb1 := low_b (X := n1 * worth o.ks j * p.s) (S := shares o.ps) (by omega)
          have hb2 := low_b (X := n2 * worth o.ks j * p.s) (S := shares o.ps) (by omega)
          refine ⟨u, y3, _, _, rfl, hu, C5.mono e4, ⟨Int.mul_pos hb1.1 hb2.1, ?_⟩, lowp _ _, _, rfl, ?_⟩
          · show (lowest _ _).2 * (lowest _ _).2 < 1000000000
            have := Int.mul_le_mul (show (lowest (n1 * worth o.ks j * p.s) (shares o.ps)).2 ≤ 9 by omega) (show (lowest (n2 * worth o.ks j * p.s) (shares o.ps)).2 ≤ 9 by omega) (Int.le_of_lt hb2.1) (by decide)
            omega
          have es : sameP (addP (dq o n1 p j) (dq o n2 p j)) (dq o (n1 + n2) p j) = true := decide_eq_true (by
            have h1 := low_eq (n1 * worth o.ks j * p.s) (shares o.ps)
            have h2 := low_eq (n2 * worth o.ks j * p.s) (shares o.ps)
            have h3 := low_eq ((n1 + n2) * worth o.ks j * p.s) (shares o.ps)
            rw [show (n1 + n2) * worth o.ks j * p.s = n1 * worth o.ks j * p.s + n2 * worth o.ks j * p.s by rw [Int.add_mul, Int.add_mul]] at h3
            have h4 := add_ok (by omega) h1 h2 h3
            show _ * (lowest ((n1 + n2) * worth o.ks j * p.s) (shares o.ps)).2 = (lowest ((n1 + n2) * worth o.ks j * p.s) (shares o.ps)).1 * _
            rw [show (n1 + n2) * worth o.ks j * p.s = n1 * worth o.ks j * p.s + n2 * worth o.ks j * p.s by rw [Int.add_mul, Int.add_mul]]
            exact h4)
          rw [es]
          refine iteF ?_
          refine ⟨tl, _, 2, _, rfl, rfl, sqL (e34.get htl), atI_nat (j := 2) rfl, ?_⟩
          refine ⟨a3, xs3, (i : Int), _, rfl, rfl, e4.seqT C1, atI_nat C2, ?_⟩
          refine ⟨b3, ys3, (j : Int), y3, rfl, rfl, e4.seqT C3, atI_nat C4, ?_⟩
          refine ⟨tl, _, 2, _, rfl, rfl, sqL (e34.get htl), atI_nat (j := 2) rfl, ?_⟩
          refine ⟨a3, xs4, 0, _, rfl, rfl, e4.seqT F1, atI_nat (j := 0) F2, ?_⟩
          refine ⟨b4, ys4, (j : Int), y4, rfl, rfl, e4.seqT F3, atI_nat F4, ?_⟩
          obtain ⟨c3, rfl, c31⟩ := C5
          obtain ⟨c4, rfl, c41⟩ := F5
          refine ⟨_, _, ⟨rfl, rfl⟩, ?_⟩
          refine ⟨c3, _, 0, _, rfl, rfl, e4.seqT c31, atI_nat (j := 0) rfl, ?_⟩
          obtain ⟨pp, hpp⟩ : ∃ x, px[i]? = some x := ⟨_, List.getElem?_eq_getElem (by omega)⟩
          obtain ⟨pp0, hpp0⟩ : ∃ x, px[0]? = some x := ⟨_, List.getElem?_eq_getElem (by omega)⟩
          obtain ⟨k', hk1, hk2⟩ := hPs.getM hpp
          rw [hpi] at hk1
          cases hk1
          obtain ⟨k', hk1, hk3⟩ := hPs.getM hpp0
          rw [hp0] at hk1
          cases hk1
          obtain ⟨pa, pb, rfl, hpa1, _⟩ := (hk2.mono e34.any).pn
          obtain ⟨pa0, pb0, rfl, hpa2, _⟩ := (hk3.mono e34.any).pn
          refine ⟨c, px, 0, _, rfl, rfl, e34.seqT hP, atI_nat (j := 0) hpp0, ?_⟩
          refine ⟨pa0, _, 1, _, rfl, rfl, hpa2, atI_nat (j := 1) rfl, ?_⟩
          walk_at "rd"
          refine ⟨.inr ⟨by omega, by omega⟩, c3, _, 1, _, rfl, rfl, e4.seqT c31, atI_nat (j := 1) rfl, by decide, fun T1 hT1 => ?_⟩
          have g1 : Ex H3 (upd H4 T1 (.tup [.int ((dq o (n1 + n2) p j).1 * p0.s), .int (dq o (n1 + n2) p j).2])) := e4.trans (.new hT1)
          have g1' := e3.trans g1
          refine ⟨c4, _, 0, _, rfl, rfl, g1.seqT c41, atI_nat (j := 0) rfl, ?_⟩
          refine ⟨c, px, (i : Int), _, rfl, rfl, g1'.seqT hP, atI_nat hpp, ?_⟩
          refine ⟨pa, _, 1, _, rfl, rfl, Gr.seqT (m := nob) (.new hT1) hpa1, atI_nat (j := 1) rfl, _, rfl, _, rfl, .inr ⟨by omega, by omega⟩, ?_⟩
          refine ⟨c4, _, 1, _, rfl, rfl, g1.seqT c41, atI_nat (j := 1) rfl, by decide, fun T2 hT2 => ?_⟩
          have hT12 : T1 ≠ T2 := lst_ne upd_same hT2
          have l3 := lowp (n1 + n2) p
          have l4 := lowp (n1 + n2) p0
          refine ⟨_, _, ((dq o (n1 + n2) p j).1 * p0.s, (dq o (n1 + n2) p j).2), ((dq o (n1 + n2) p0 j).1 * p.s, (dq o (n1 + n2) p0 j).2), rfl, ⟨T1, rfl, sqT (by rw [upd_ne hT12]; exact upd_same)⟩, ⟨T2, rfl, sqT upd_same⟩, l3, l4, _, rfl, ?_⟩
          have es2 : sameP ((dq o (n1 + n2) p j).1 * p0.s, (dq o (n1 + n2) p j).2) ((dq o (n1 + n2) p0 j).1 * p.s, (dq o (n1 + n2) p0 j).2) = true := decide_eq_true (by
            have h1 := low_eq ((n1 + n2) * worth o.ks j * p.s) (shares o.ps)
            have h2 := low_eq ((n1 + n2) * worth o.ks j * p0.s) (shares o.ps)
            exact prop_ok (by omega) h1 h2)
          rw [es2]
          refine iteF ?_
          exact ⟨_, _, _, _, _, _, ⟨rfl, rfl, rfl, rfl, rfl, rfl⟩, g1'.trans (.new hT2)⟩
        · rintro σ' H3 ⟨y5, y7, y8, y9, y10, y11, rfl, e3⟩
          exact q H3 e3
end
end K11

namespace K11
open PySem PySem.Spec PyProof.Rows L2 Z ZE
local macro_rules | `(tactic| walk_at "rd") => `(tactic| try simp only [cxOf, tSeq, tIfS, tRet, tRetN, tAsg, tDrop, tNext, tBreak, tCont, tNever, tPar, tPar3, tAug, gName, gTup, gCons, gNil, gSub, tVar, tC, tOp, tUn, tCB, tBM, tBM0, tCons, tNil, tTest, tB, tAnd, tOr, tNot, tAndV, tOrV, tNotV, tIf, tChain,
  tTup, tLst, tCall, tMeth, tSl, tPart, tNoPart, tM1, tFmt, tJs_nil, tJs_cons, tCKw, rI0, rI, rU, rEq, rNe, scal_ii, scal_ss, scal_bb, ipI, iStr, iTup, iList, iRng1, sFld, tFld, L2.start, List.getElem?_cons_zero, List.getElem?_cons_succ, List.set_cons_zero, List.set_cons_succ, Option.some.injEq, V.int.injEq, V.bl.injEq, V.str.injEq, V.ref.injEq,
  List.cons.injEq, exists_and_left, exists_eq_left', exists_eq_left, exists_eq_right, exists_eq_right', exists_eq', exists_eq, and_true, true_and, and_self, List.map_cons, List.map_nil, List.length_cons, List.length_nil, List.replicate_succ, List.replicate_zero, List.cons_append, List.nil_append, List.append_nil,
  Nat.add_sub_cancel, Nat.reduceAdd, Nat.reduceSub, if_true, if_false, ite_true, ite_false, Bool.not_true, Bool.not_false, Bool.true_eq_false, Bool.false_eq_true, reduceIte, reduceCtorEq, false_and, exists_false, or_false, false_or, decide_true, decide_false, wipe])

section
variable {K : PySem.W.Frag} {H : Hp} {C : Addr}
theorem mk_ex {H1 H' : Hp} {x dx : Addr} (hx : H1 x = none) (hd : H1 dx = none) (hne : dx ≠ x) (g : Gr (· = x) (upd (upd H1 dx (.own x)) x (.ins C dx [])) H') : Ex H1 H' := by
  have e : Ex H1 (upd (upd H1 dx (.own x)) x (.ins C dx [])) := (Gr.new hd).trans (.new (by rw [upd_ne hne.symm]; exact hx))
  exact Gr.fresh e hx g
theorem OrdAt.mono {H' : Hp} {m : Addr → Prop} {x : Addr} {o : Od} (h : OrdAt K C H x o) (e : Gr m H H') (q : ¬ m x) : OrdAt K C H' x o := by
  obtain ⟨dx, a, b, c, h1, h2⟩ := h
  exact ⟨dx, a, b, c, e.at h1 q, h2.mono e.any⟩
theorem TupAt.mono {H' : Hp} {m : Addr → Prop} {x : Addr} {o : Od} (h : TupAt K H x o) (e : Gr m H H') : TupAt K H' x o := by
  obtain ⟨a, b, c, h1, h2⟩ := h
  exact ⟨a, b, c, e.seqT h1, h2.mono e.any⟩
theorem Pool.ex {H' : Hp} {a : Addr} (h : Pool H a) (e : Ex H H') : Pool H' a := by
  obtain ⟨_, _, _, h⟩ := h
  exact ⟨_, _, _, e.get h⟩
theorem OrdAt.ne {x a : Addr} {o : Od} (h : OrdAt K C H x o) (p : Pool H a) : ¬ x = a := fun z => by
  obtain ⟨_, _, _, _, h, _⟩ := h
  obtain ⟨_, _, _, p⟩ := p
  rw [z, p] at h
  cases h
theorem mk_order {t : TA} {σ : L2.St} {H1 : Hp} {Q : VK} {o : Od} (C0 : Addr → Addr → Addr → Hp → Prop) (ht : ∀ R : List V → Hp → Prop, (∀ a b c H2, C0 a b c H2 → R [.ref a, .ref b, .ref c] H2) → t σ H1 R) (hp : ∀ a b c H2, C0 a b c H2 → Ex H1 H2 ∧ PartsAt K H2 a b c o)
    (k : ∀ y H2, Ex H1 H2 → OrdAt K C H2 y o → Q (.ref y) H2) : tMake C (spInit K C) [] E0 t σ H1 Q :=
  ht _ fun a b c H2 h y dx hy hd hne => by
    obtain ⟨e, p⟩ := hp a b c H2 h
    have e2 : Ex H2 (upd (upd H2 dx (.own y)) y (.ins C dx [])) := (Gr.new hd).trans (.new (by rw [upd_ne hne.symm]; exact hy))
    have p2 := p.mono e2.any
    exact ⟨y, dx, a, b, c, o, rfl, upd_same, p2, fun H3 g h3 => ⟨rfl, k y H3 (e.trans (mk_ex hy hd hne g)) ⟨dx, a, b, c, h3, p2.mono g.any⟩⟩⟩
theorem due_go {y : Addr} {o : Od} {n : Int} {Q : VK} (od : OrdAt K C H y o) (hn : 0 ≤ n) (k : ∀ v H', Ex H H' → DT K H' v (dueD o n) → Q v H') :
    ∃ dx fs, H y = some (.ins C dx fs) ∧ fs.lookup ("due" : Str) = none ∧ spDue K C [.ref y, .int n] H Q E0 := by
  obtain ⟨dx, a, b, c, h1, h2⟩ := od
  exact ⟨dx, _, h1, fl_no _ _ _ _ (by decide +kernel) (by decide +kernel) (by decide +kernel) (by decide +kernel), y, o, n, rfl, ⟨dx, a, b, c, h1, h2⟩, hn, k⟩
theorem DTs.rev {xs : List V} {ds : List D} (h : DTs K H xs ds) : DTs K H xs.reverse ds.reverse := by
  induction ds generalizing xs with
  | nil =>
    cases h
    exact .nil
  | cons d ds ih =>
    cases h with
    | cons h1 h2 =>
      rw [List.reverse_cons, List.reverse_cons]
      exact DTs.snoc (ih h2) h1
theorem dp_same {d : PyData} : ∀ {ys : List V}, (∀ y ∈ ys, Dp K H y d) → DpAll K H ys (List.replicate ys.length d)
  | [], _ => .nil
  | y :: ys, h => .cons (h y (List.mem_cons_self ..)) (dp_same fun z hz => h z (List.mem_cons_of_mem _ hz))
/-! equal dues -/
theorem due_eq {o o' : Od} (hm : o'.ms.length = o.ms.length) (hw : ∀ j, worth o'.ks j = worth o.ks j) (hs : o'.ps.map Pn.s = o.ps.map Pn.s) (n : Int) : dueD o' n = dueD o n := by
  have key : ∀ o : Od, dueD o n = .tup ((o.ps.map Pn.s).map fun s => .tup (((List.range o.ms.length).map fun j => lowest (n * worth o.ks j * s) ((o.ps.map Pn.s).sum)).map Z.pairD)) := fun o => by
    unfold dueD dueP shares
    rw [List.map_map]
    rfl
  rw [key, key, hm, hs]
  simp only [hw]
def dueY (o : Od) (n : Int) : PyData := .tuple (o.ps.map fun p => .tuple ((dueP o n p).map fun q => .tuple [.int q.1, .int q.2]))
theorem dp_map {α : Type} {f : α → D} {g : α → PyData} (hf : ∀ v a, DT K H v (f a) → Dp K H v (g a)) : ∀ {xs : List V} {l : List α}, DTs K H xs (l.map f) → DpAll K H xs (l.map g)
  | _, [], h => by
    cases h
    exact .nil
  | _, a :: l, h => by
    cases h with
    | cons h1 h2 => exact .cons (hf _ a h1) (dp_map hf h2)
theorem dp_due {v : V} {o : Od} {n : Int} (h : DT K H v (dueD o n)) : Dp K H v (dueY o n) := by
  have h' : DT K H v (.tup (o.ps.map fun p => .tup ((dueP o n p).map Z.pairD))) := h
  cases h' with
  | tup hS hs =>
    refine .tup hS (dp_map (fun v p hv => ?_) hs)
    cases hv with
    | tup hS2 hs2 =>
      refine .tup hS2 (dp_map (fun v q hv => ?_) hs2)
      obtain ⟨a, rfl, h3⟩ := hv.pair
      exact .tup h3 (.cons (.int _) (.cons (.int _) .nil))
theorem lay_all {ds : List PyData} (h : ∀ d ∈ ds, PyData.canLay0 d = true) : PyData.canLayAll0 ds = true := by
  induction ds with
  | nil => rfl
  | cons d ds ih =>
    simp only [PyData.canLayAll0, Bool.and_eq_true]
    exact ⟨h d (List.mem_cons_self ..), ih fun x hx => h x (List.mem_cons_of_mem _ hx)⟩
theorem depth_all {ds : List PyData} {k : Nat} (h : ∀ d ∈ ds, PyData.depth d ≤ k) : PyData.depthAll ds ≤ k := by
  induction ds with
  | nil => exact Nat.zero_le _
  | cons d ds ih =>
    simp only [PyData.depthAll]
    have h1 := h d (List.mem_cons_self ..)
    have h2 := ih fun x hx => h x (List.mem_cons_of_mem _ hx)
    omega
theorem depth_tup {ds : List PyData} {k : Nat} (h : ∀ d ∈ ds, PyData.depth d ≤ k) : PyData.depth (.tuple ds) ≤ k + 1 := by
  have := depth_all h
  simp only [PyData.depth]
  omega
theorem depth_lst {ds : List PyData} {k : Nat} (h : ∀ d ∈ ds, PyData.depth d ≤ k) : PyData.depth (.list ds) ≤ k + 1 := by
  have := depth_all h
  simp only [PyData.depth]
  omega
theorem dueY_lay (o : Od) (n : Int) : PyData.canLay0 (dueY o n) = true := by
  unfold dueY
  simp only [PyData.canLay0]
  refine lay_all fun d hd => ?_
  obtain ⟨p, _, rfl⟩ := List.mem_map.mp hd
  simp only [PyData.canLay0]
  refine lay_all fun d hd => ?_
  obtain ⟨q, _, rfl⟩ := List.mem_map.mp hd
  rfl
theorem dueY_depth (o : Od) (n : Int) : PyData.depth (dueY o n) ≤ 3 := by
  unfold dueY
  refine depth_tup fun d hd => ?_
  obtain ⟨p, _, rfl⟩ := List.mem_map.mp hd
  refine depth_tup fun d hd => ?_
  obtain ⟨q, _, rfl⟩ := List.mem_map.mp hd
  exact depth_tup (k := 0) fun d hd => by
    simp only [List.mem_cons, List.not_mem_nil, or_false] at hd
    rcases hd with rfl | rfl <;> exact Nat.le_refl _
theorem three_shaped (o : Od) (n : Int) : SeqAt.shaped (.list [dueY o n, dueY o n, dueY o n]) = true := by
  unfold SeqAt.shaped
  rw [Bool.and_eq_true]
  have hm : ∀ d ∈ [dueY o n, dueY o n, dueY o n], d = dueY o n := fun d hd => by
    simp only [List.mem_cons, List.not_mem_nil, or_false] at hd
    rcases hd with rfl | rfl | rfl <;> rfl
  refine ⟨?_, decide_eq_true ?_⟩
  · simp only [PyData.canLay0]
    exact lay_all fun d hd => by
      rw [hm d hd]
      exact dueY_lay o n
  · have := depth_lst (ds := [dueY o n, dueY o n, dueY o n]) (k := 3) fun d hd => by
      rw [hm d hd]
      exact dueY_depth o n
    omega
theorem eqv_rfl {d : PyData} (h : SeqAt.shaped d = true) : PyData.eqv d d = true := by
  have h2 := SeqAt.canLay_of_shaped h
  exact SeqAt.eqv_refl d h2
theorem ones_shaped (n : Nat) : SeqAt.shaped (.list (List.replicate n (.int 1))) = true := by
  unfold SeqAt.shaped
  rw [Bool.and_eq_true]
  have hm : ∀ d ∈ List.replicate n (PyData.int 1), d = .int 1 := fun d hd => (List.mem_replicate.mp hd).2
  refine ⟨?_, decide_eq_true ?_⟩
  · simp only [PyData.canLay0]
    exact lay_all fun d hd => by
      rw [hm d hd]
      rfl
  · have := depth_lst (ds := List.replicate n (PyData.int 1)) (k := 0) fun d hd => by
      rw [hm d hd]
      exact Nat.le_refl _
    omega
theorem dp_ones (n : Nat) : DpAll K H (List.replicate n (.int 1)) (List.replicate n (.int 1)) := by
  induction n with
  | zero => exact .nil
  | succ n ih => exact .cons (.int 1) ih
end
/-! the three other orders -/
def plainP (p : Pn) : Pn := ⟨p.n, p.s, []⟩
def freshP (o : Od) (i : Nat) : Pn := ⟨("p" : Str) ++ num (i : Int), (o.ps.getD i ⟨"", 0, []⟩).s, []⟩
def oRev (o : Od) : Od := ⟨o.ms, o.ks.reverse, o.ps.map plainP⟩
def oPlain (o : Od) : Od := ⟨o.ms, o.ks, o.ps.map plainP⟩
def oFresh (o : Od) : Od := ⟨o.ms, o.ks, (List.range o.ps.length).map (freshP o)⟩
theorem filt_nil (ks : List Str) : ([] : List Str) = ks.filter fun k => decide (k ∈ ([] : List Str)) := by
  simp
theorem oPlain_ok {o : Od} (h : o.ok) : (oPlain o).ok := by
  refine ⟨h.m1, h.m2, h.m3, h.k1, h.k2, h.k3, by show 2 ≤ (o.ps.map plainP).length ∧ (o.ps.map plainP).length ≤ 3; rw [List.length_map]; exact h.p1, fun z => by show (o.ps.map plainP).length = 2; rw [List.length_map]; exact h.p2 z, fun p hp => ?_, ?_⟩
  · obtain ⟨p', hp', rfl⟩ := List.mem_map.mp hp
    have := h.p3 p' hp'
    exact ⟨this.n, this.s, filt_nil _⟩
  · show ((o.ps.map plainP).map Pn.n).Nodup
    rw [List.map_map]
    exact h.p4
theorem oRev_ok {o : Od} (h : o.ok) : (oRev o).ok := by
  have h1 := oPlain_ok h
  refine ⟨h.m1, h.m2, h.m3, by show 1 ≤ o.ks.reverse.length ∧ o.ks.reverse.length ≤ 4; rw [List.length_reverse]; exact h.k1, fun k hk => h.k2 k (List.mem_reverse.mp hk), ?_, h1.p1, h1.p2, fun p hp => ?_, h1.p4⟩
  · show (o.ks.reverse.map Kd.n).Nodup
    rw [List.map_reverse]
    exact List.pairwise_reverse.mpr (List.Pairwise.imp (fun {a b} (q : a ≠ b) => q.symm) h.k3)
  · obtain ⟨p', hp', rfl⟩ := List.mem_map.mp hp
    have := h.p3 p' hp'
    exact ⟨this.n, this.s, filt_nil _⟩
theorem freshP_mem {o : Od} (h : o.ok) {i : Nat} (hi : i < o.ps.length) : nameOk (freshP o i).n = true ∧ (1 ≤ (freshP o i).s ∧ (freshP o i).s ≤ 3) := by
  have h3 := h.p1.2
  refine ⟨?_, ?_⟩
  · show nameOk (("p" : Str) ++ num (i : Int)) = true
    have hi3 : i = 0 ∨ i = 1 ∨ i = 2 := by omega
    rcases hi3 with rfl | rfl | rfl <;> decide +kernel
  · show 1 ≤ (o.ps.getD i ⟨"", 0, []⟩).s ∧ (o.ps.getD i ⟨"", 0, []⟩).s ≤ 3
    rw [List.getD_eq_getElem?_getD, List.getElem?_eq_getElem hi]
    exact (h.p3 _ (List.getElem_mem hi)).s
theorem oFresh_ok {o : Od} (h : o.ok) : (oFresh o).ok := by
  refine ⟨h.m1, h.m2, h.m3, h.k1, h.k2, h.k3, by show 2 ≤ ((List.range o.ps.length).map (freshP o)).length ∧ ((List.range o.ps.length).map (freshP o)).length ≤ 3; rw [List.length_map, List.length_range]; exact h.p1,
    fun z => by show ((List.range o.ps.length).map (freshP o)).length = 2; rw [List.length_map, List.length_range]; exact h.p2 z, fun p hp => ?_, ?_⟩
  · obtain ⟨i, hi, rfl⟩ := List.mem_map.mp hp
    have := freshP_mem h (List.mem_range.mp hi)
    exact ⟨this.1, this.2, filt_nil _⟩
  · show (((List.range o.ps.length).map (freshP o)).map Pn.n).Nodup
    rw [List.map_map]
    have e : (Pn.n ∘ freshP o) = fun i : Nat => ("p" : Str) ++ num (i : Int) := rfl
    rw [e]
    have h1 := h.p1
    have hl : o.ps.length = 2 ∨ o.ps.length = 3 := by omega
    rcases hl with e | e <;> rw [e] <;> decide +kernel
theorem fresh_s (o : Od) : (oFresh o).ps.map Pn.s = o.ps.map Pn.s := by
  show ((List.range o.ps.length).map (freshP o)).map Pn.s = _
  refine List.ext_getElem? fun i => ?_
  rw [List.map_map, List.getElem?_map, List.getElem?_map]
  by_cases hi : i < o.ps.length
  · rw [List.getElem?_range hi, List.getElem?_eq_getElem hi]
    show some (o.ps.getD i ⟨"", 0, []⟩).s = some o.ps[i].s
    rw [List.getD_eq_getElem?_getD, List.getElem?_eq_getElem hi]
    rfl
  · rw [List.getElem?_eq_none (by rw [List.length_range]; omega), List.getElem?_eq_none (by omega)]
    rfl
theorem plain_s (o : Od) : (o.ps.map plainP).map Pn.s = o.ps.map Pn.s := by
  rw [List.map_map]
  rfl
theorem rev_w (o : Od) (j : Nat) : worth o.ks.reverse j = worth o.ks j := by
  unfold worth
  rw [List.map_reverse, List.sum_reverse]
theorem due_rev (o : Od) (n : Int) : dueD (oRev o) n = dueD o n := due_eq (o := o) (o' := oRev o) rfl (rev_w o) (plain_s o) n
theorem due_plain (o : Od) (n : Int) : dueD (oPlain o) n = dueD o n := due_eq (o := o) (o' := oPlain o) rfl (fun _ => rfl) (plain_s o) n
theorem due_fresh (o : Od) (n : Int) : dueD (oFresh o) n = dueD o n := due_eq (o := o) (o' := oFresh o) rfl (fun _ => rfl) (fresh_s o) n
/-- a number of boxes that the sum of the shares divides: whole -/
theorem low_whole {n S W s : Int} (hS : 0 < S) : (lowest (n * S * W * s) S).2 = 1 := by
  show S / gcdI (n * S * W * s) S = 1
  have e : gcdI (n * S * W * s) S = S := by
    unfold gcdI
    have h : Nat.gcd (n * S * W * s).natAbs S.natAbs = S.natAbs := Nat.gcd_eq_right (Int.natAbs_dvd_natAbs.mpr ⟨n * W * s, by simp only [Int.mul_assoc, Int.mul_comm, Int.mul_left_comm]⟩)
    rw [h]
    omega
  rw [e, Int.ediv_self (by omega)]
section
variable {P : Program} {w : World} {K : PySem.W.Frag} {mg : Str → Option Value} {base : Heap} {C : Addr}
abbrev s_law_right : Stmt := topS 56
theorem sc_law_right : FnScope ["_law_pool_here", "_law_mine", "_law_made", "_law_row", "_law_first", "_law_second", "_law_whole", "_law_told", "_law_place", "_law_plain", "_law_fresh", "_law_others", "_law_k", "_law_pair", "_law_each"] ["_law_pool_here"] (defScope s_law_right) := ⟨rfl, rfl, rfl, by decide +kernel, rfl, by decide +kernel, by decide +kernel⟩
def spRight : Sp := fun vs H Q _ => ∃ a, vs = [.ref a] ∧ Pool H a ∧ ∀ H', Gr (· = a) H H' → Q (.bl true) H'
theorem ok_law_right (B : Bl mg) (T : OrdC K C) (m_Order : Mkr P w K mg base 6 "Order" C ["self", "measures", "kinds", "people"] (spInit K C)) (d_Order_due : Mtd P w K mg base 4 C "due" ["self", "boxes"] (spDue K C)) (d_Order__str : Mtd P w K mg base 1 C "__str__" ["self"] (spStr C K))
    (c_law_parts : Cal P w K mg base 3 "_law_parts" ["_law_pool_here"] (spLParts K)) (c_law_amount : Cal P w K mg base 2 "_law_amount" ["_law_pool_here"] spAmount)
    (c_law_place_right : Cal P w K mg base 3 "_law_place_right" ["_law_parts_here", "_law_place", "_law_numbers_here", "_law_told"] (spPlace K)) (c_law_text : Cal P w K mg base 1 "_law_text" ["_law_parts_here"] (spLText K)) (D0 : Df K mg "_law_right" s_law_right) :
    Cal P w K mg base 8 "_law_right" ["_law_pool_here"] spRight := by
  refine D0.cal sc_law_right (fun _ _ _ _ _ _ us hl => match us, hl with | [_], _ => rfl) (fun vs H Q E h => ?_) (fun f cdv A outer s H vs Q E hr h => ?_)
  · obtain ⟨a, rfl, _⟩ := h
    rfl
  · obtain ⟨a, rfl, hp, q⟩ := h
    refine ⟨_, (pss_cons (ps_set (i := 1) sc_law_right.nd rfl (.inr rfl) (pe_cal c_law_parts hr (by decide) rfl (pa_cons (pv 0) pa_nil)))
      (pss_cons (ps_set (i := 2) sc_law_right.nd rfl (.inl rfl) (pe_mk m_Order hr (by decide) rfl (pa_cons (pe_ix (r := rIxT K) ix_tup (pv 1) pe_int (fun _ _ => rfl)) (pa_cons (pe_ix (r := rIxT K) ix_tup (pv 1) pe_int (fun _ _ => rfl)) (pa_cons (pe_ix (r := rIxT K) ix_tup (pv 1) pe_int (fun _ _ => rfl)) pa_nil)))))
      (pss_cons (ps_asg (pe_tup (pa_cons (pe_cal c_law_amount hr (by decide) rfl (pa_cons (pv 0) pa_nil)) (pa_cons (pe_cal c_law_amount hr (by decide) rfl (pa_cons (pv 0) pa_nil)) (pa_cons (pe_callB (r := rSum K) (cr_sum rfl) (by rfl) B.sum_ (by decide +kernel) (pa_cons (pe_lc (own := [("_law_row", 3)]) (g := gName 3) rfl sc_law_right.nd (pi_tup (pe_ix (r := rIxT K) ix_tup (pv 1) pe_int (fun _ _ => rfl))) (blkOk_by (N := ["_law_pool_here", "_law_mine", "_law_made", "_law_row", "_law_first", "_law_second", "_law_whole", "_law_told", "_law_place", "_law_plain", "_law_fresh", "_law_others", "_law_k", "_law_pair", "_law_each"]) (sc := defScope s_law_right) (by decide +kernel)) (fun _ _ _ _ _ => (pg_name (i := 3) sc_law_right.nd rfl (.inl rfl))) (fun _ _ _ _ _ => pts_nil) (fun _ _ _ _ _ => (pe_ix (r := rIxT K) ix_tup (pv 3) pe_int (fun _ _ => rfl)))) pa_nil)) pa_nil)))) (pg_tup rfl (pgs_cons (pg_name (i := 4) sc_law_right.nd rfl (.inr rfl)) (pgs_cons (pg_name (i := 5) sc_law_right.nd rfl (.inl rfl)) (pgs_cons (pg_name (i := 6) sc_law_right.nd rfl (.inl rfl)) pgs_nil)))))
      (pss_cons (ps_set (i := 7) sc_law_right.nd rfl (.inl rfl) (pe_lst (pa_cons (pe_mth d_Order_due hr (by decide) (pv 2) (pa_cons (pv 4) pa_nil)) (pa_cons (pe_mth d_Order_due hr (by decide) (pv 2) (pa_cons (pv 5) pa_nil)) (pa_cons (pe_mth d_Order_due hr (by decide) (pv 2) (pa_cons (pe_op op_add (pv 4) (pv 5)) pa_nil)) pa_nil)))))
      (pss_cons (ps_for PassesOwn.never rfl (pi_range1 rfl B.range_ (pa_cons (pe_callB (r := rLenQ K) call_len_seq (by rfl) B.len_ PySem.boot_len (pa_cons (pe_ix (r := rIxT K) ix_tup (pv 1) pe_int (fun _ _ => rfl)) pa_nil)) pa_nil)) (pg_name (i := 8) sc_law_right.nd rfl (.inl rfl)) (pss_one (ps_if (pt_not (pt_val (pe_cal c_law_place_right hr (by decide) rfl (pa_cons (pv 1) (pa_cons (pv 8) (pa_cons (pe_lst (pa_cons (pv 4) (pa_cons (pv 5) (pa_cons (pe_op op_add (pv 4) (pv 5)) pa_nil)))) (pa_cons (pv 7) pa_nil))))))) (pss_one (ps_ret pe_bl)) pss_nil)))
      (pss_cons (ps_for PassesOwn.never rfl (pi_tup (pe_mth d_Order_due hr (by decide) (pv 2) (pa_cons (pe_op op_mul (pv 4) (pv 6)) pa_nil))) (pg_name (i := 3) sc_law_right.nd rfl (.inl rfl)) (pss_one (ps_if (pt_cmpR (r := rNeD K) (op_neD hr.units) (pe_lc (own := [("_law_pair", 13)]) (g := gName 13) rfl sc_law_right.nd (pi_tup (pv 3)) (blkOk_by (N := ["_law_pool_here", "_law_mine", "_law_made", "_law_row", "_law_first", "_law_second", "_law_whole", "_law_told", "_law_place", "_law_plain", "_law_fresh", "_law_others", "_law_k", "_law_pair", "_law_each"]) (sc := defScope s_law_right) (by decide +kernel)) (fun _ _ _ _ _ => (pg_name (i := 13) sc_law_right.nd rfl (.inl rfl))) (fun _ _ _ _ _ => pts_nil) (fun _ _ _ _ _ => (pe_ix (r := rIxT K) ix_tup (pv 13) pe_int (fun _ _ => rfl)))) (pe_op op_rep (pe_lst (pa_cons pe_int pa_nil)) (pe_callB (r := rLenQ K) call_len_seq (by rfl) B.len_ PySem.boot_len (pa_cons (pe_ix (r := rIxT K) ix_tup (pv 1) pe_int (fun _ _ => rfl)) pa_nil))) (nomark _)) (pss_one (ps_ret pe_bl)) pss_nil)))
      (pss_cons (ps_set (i := 9) sc_law_right.nd rfl (.inl rfl) (pe_callTy (r := rTupOf K) call_tuple_of (by rfl) B.tuple_ (by decide +kernel) (pa_cons (pe_lc (own := [("_law_row", 3)]) (g := gName 3) rfl sc_law_right.nd (pi_tup (pe_ix (r := rIxT K) ix_tup (pv 1) pe_int (fun _ _ => rfl))) (blkOk_by (N := ["_law_pool_here", "_law_mine", "_law_made", "_law_row", "_law_first", "_law_second", "_law_whole", "_law_told", "_law_place", "_law_plain", "_law_fresh", "_law_others", "_law_k", "_law_pair", "_law_each"]) (sc := defScope s_law_right) (by decide +kernel)) (fun _ _ _ _ _ => (pg_name (i := 3) sc_law_right.nd rfl (.inl rfl))) (fun _ _ _ _ _ => pts_nil) (fun _ _ _ _ _ => (pe_tup (pa_cons (pe_ix (r := rIxT K) ix_tup (pv 3) pe_int (fun _ _ => rfl)) (pa_cons (pe_ix (r := rIxT K) ix_tup (pv 3) pe_int (fun _ _ => rfl)) (pa_cons (pe_tup pa_nil) pa_nil)))))) pa_nil)))
      (pss_cons (ps_set (i := 10) sc_law_right.nd rfl (.inl rfl) (pe_callTy (r := rTupOf K) call_tuple_of (by rfl) B.tuple_ (by decide +kernel) (pa_cons (pe_lc (own := [("_law_k", 12)]) (g := gName 12) rfl sc_law_right.nd (pi_range1 rfl B.range_ (pa_cons (pe_callB (r := rLenQ K) call_len_seq (by rfl) B.len_ PySem.boot_len (pa_cons (pe_ix (r := rIxT K) ix_tup (pv 1) pe_int (fun _ _ => rfl)) pa_nil)) pa_nil)) (blkOk_by (N := ["_law_pool_here", "_law_mine", "_law_made", "_law_row", "_law_first", "_law_second", "_law_whole", "_law_told", "_law_place", "_law_plain", "_law_fresh", "_law_others", "_law_k", "_law_pair", "_law_each"]) (sc := defScope s_law_right) (by decide +kernel)) (fun _ _ _ _ _ => (pg_name (i := 12) sc_law_right.nd rfl (.inl rfl))) (fun _ _ _ _ _ => pts_nil) (fun _ _ _ _ _ => (pe_tup (pa_cons (pe_op op_add_str pe_str (pe_callTy call_str_int (by rfl) B.str_ (by decide +kernel) (pa_cons (pv 12) pa_nil))) (pa_cons (pe_ix (r := rIxT K) ix_tup (pe_ix (r := rIxT K) ix_tup (pe_ix (r := rIxT K) ix_tup (pv 1) pe_int (fun _ _ => rfl)) (pv 12) (fun _ _ => rfl)) pe_int (fun _ _ => rfl)) (pa_cons (pe_tup pa_nil) pa_nil)))))) pa_nil)))
      (pss_cons (ps_set (i := 11) sc_law_right.nd rfl (.inl rfl) (pe_lst (pa_cons (pe_mk m_Order hr (by decide) rfl (pa_cons (pe_ix (r := rIxT K) ix_tup (pv 1) pe_int (fun _ _ => rfl)) (pa_cons (pe_revT (pe_ix (r := rIxT K) ix_tup (pv 1) pe_int (fun _ _ => rfl))) (pa_cons (pv 9) pa_nil)))) (pa_cons (pe_mk m_Order hr (by decide) rfl (pa_cons (pe_ix (r := rIxT K) ix_tup (pv 1) pe_int (fun _ _ => rfl)) (pa_cons (pe_ix (r := rIxT K) ix_tup (pv 1) pe_int (fun _ _ => rfl)) (pa_cons (pv 9) pa_nil)))) (pa_cons (pe_mk m_Order hr (by decide) rfl (pa_cons (pe_ix (r := rIxT K) ix_tup (pv 1) pe_int (fun _ _ => rfl)) (pa_cons (pe_ix (r := rIxT K) ix_tup (pv 1) pe_int (fun _ _ => rfl)) (pa_cons (pv 10) pa_nil)))) pa_nil)))))
      (pss_one (ps_ret (pe_and (pe_cmpR (r := rEqD K) (op_eqD hr.units) (pe_lc (own := [("_law_each", 14)]) (g := gName 14) rfl sc_law_right.nd (pi_list (pv 11)) (blkOk_by (N := ["_law_pool_here", "_law_mine", "_law_made", "_law_row", "_law_first", "_law_second", "_law_whole", "_law_told", "_law_place", "_law_plain", "_law_fresh", "_law_others", "_law_k", "_law_pair", "_law_each"]) (sc := defScope s_law_right) (by decide +kernel)) (fun _ _ _ _ _ => (pg_name (i := 14) sc_law_right.nd rfl (.inl rfl))) (fun _ _ _ _ _ => pts_nil) (fun _ _ _ _ _ => (pe_mth d_Order_due hr (by decide) (pv 14) (pa_cons (pv 4) pa_nil)))) (pe_lst (pa_cons (pe_ix (r := rIxL K) ix_list (pv 7) pe_int (fun _ _ => rfl)) (pa_cons (pe_ix (r := rIxL K) ix_list (pv 7) pe_int (fun _ _ => rfl)) (pa_cons (pe_ix (r := rIxL K) ix_list (pv 7) pe_int (fun _ _ => rfl)) pa_nil)))) (nomark _)) (pe_one (pe_cmpR op_eq (pe_callTy (call_strO d_Order__str hr (by decide)) (by rfl) B.str_ (by decide +kernel) (pa_cons (pv 2) pa_nil)) (pe_cal c_law_text hr (by decide) rfl (pa_cons (pv 1) pa_nil)) (nomark _))))))))))))))), ?_⟩
    walk_at "rd"
    refine ⟨a, rfl, hp, fun x o H1 t1 g1 p1 => ?_⟩
    walk_at "rd"
    have t1' := t1
    obtain ⟨a1, b1, c1, hx, hp1⟩ := t1'
    refine mk_order (o := o) (fun a b c H2 => a = a1 ∧ b = b1 ∧ c = c1 ∧ H2 = H1) (fun R h => ⟨_, rfl, x, _, 0, _, rfl, rfl, hx, atI_nat (j := 0) rfl, _, rfl, x, _, 1, _, rfl, rfl, hx, atI_nat (j := 1) rfl, _, rfl, x, _, 2, _, rfl, rfl, hx, atI_nat (j := 2) rfl, h _ _ _ _ ⟨rfl, rfl, rfl, rfl⟩⟩) (fun a b c H2 h => by
      obtain ⟨rfl, rfl, rfl, rfl⟩ := h
      exact ⟨.refl, hp1⟩) (fun y H2 e2 od2 => ?_)
    have p2 := p1.ex e2
    have hya := od2.ne p2
    refine ⟨a, rfl, p2, fun n1 H3 hn1 g3 p3 => ?_⟩
    refine ⟨a, rfl, p3, fun n2 H4 hn2 g4 p4 => ?_⟩
    have g24 := g3.trans g4
    have od4 := od2.mono g24 hya
    have g14 : Gr (· = a) H1 H4 := e2.of.trans g24
    have t4 := t1.mono g14
    have ho := hp1.ok
    have hq1 := ho.p1
    have hm1 := ho.m1
    have hk1 := ho.k1
    have hp4 := hp1.mono g14.any
    have hx4 := g14.seqT hx
    obtain ⟨px, hP, hPs⟩ := hp4.p
    have hpl := hPs.lenM
    refine lcTf (a := c1) (xs := px) (fun R h => ⟨_, rfl, x, _, 2, _, rfl, rfl, hx4, atI_nat (j := 2) rfl, h⟩) hP (by omega) ((o.ps.map Pn.s).map V.int) (by rw [List.length_map, List.length_map, hpl]) ?_ ?_
    · intro i y' z H' Q' hy hz' e q'
      obtain ⟨k, h1, h2⟩ := hPs.getM hy
      rw [List.map_map, List.getElem?_map, h1] at hz'
      cases hz'
      obtain ⟨p', b', rfl, h3, h4⟩ := (h2.mono e.any).pn
      walk_at "rd"
      exact ⟨p', _, 1, _, rfl, rfl, h3, atI_nat (j := 1) rfl, q' H' .refl⟩
    · intro D1 H5 hD e5 h5
      refine ⟨D1, _, rfl, sqL h5, ?_⟩
      refine ⟨by decide, fun P5 hP5 => ⟨_, sqT upd_same, rfl, _, _, rfl, _, _, rfl, _, _, rfl, rfl, ?_⟩⟩
      have e46 : Ex H4 (upd H5 P5 (.tup [.int n1, .int n2, .int (o.ps.map Pn.s).sum])) := e5.trans (.new hP5)
      generalize upd H5 P5 (.tup [.int n1, .int n2, .int (o.ps.map Pn.s).sum]) = H6 at e46
      walk_at "rd"
      have od6 := od4.mono e46 id
      refine due_go od6 hn1 (fun v1 H7 e7 d1 => ?_)
      have od7 := od6.mono e7 id
      refine due_go od7 hn2 (fun v2 H8 e8 d2 => ?_)
      have od8 := od7.mono e8 id
      refine due_go od8 (by omega) (fun v3 H9 e9 d3 => ?_)
      refine ⟨by decide, fun tl htl => ?_⟩
      have e10 : Ex H9 (upd H9 tl (.lst [v1, v2, v3])) := .new htl
      have hT : (upd H9 tl (.lst [v1, v2, v3])) tl = some (.lst [v1, v2, v3]) := upd_same
      generalize upd H9 tl (.lst [v1, v2, v3]) = HA at e10 hT
      have eA := (((e46.trans e7).trans e8).trans e9).trans e10
      have odA := od4.mono eA id
      have tA := t4.mono eA
      have dA1 := d1.mono ((e8.trans e9).trans e10).any
      have dA2 := d2.mono (e9.trans e10).any
      have dA3 := d3.mono e10.any
      have hxA := eA.seqT hx4
      have hpA := hp4.mono eA.any
      have hS : (o.ps.map Pn.s).sum = shares o.ps := rfl
      rw [hS]
      have hsb := shares_bound (fun p hp => (ho.p3 p hp).s) ⟨by omega, hq1.2⟩
      refine forR (n := (o.ms.length : Int)) (fun R h => ⟨_, rfl, x, _, 0, _, rfl, rfl, hxA, atI_nat (j := 0) rfl, a1, _, rfl, .inr hpA.m, by rw [List.length_map]; exact h⟩) ⟨by omega, by omega⟩
        (fun i σ' H' => ∃ y8, σ' = [some (.ref a), some (.ref x), some (.ref y), none, some (.int n1), some (.int n2), some (.int (shares o.ps)), some (.ref tl), y8, none, none, none, none, none, none] ∧ Ex HA H') ⟨_, rfl, .refl⟩ ?_ ?_
      · rintro i σ' HB hi ⟨y8, rfl, eB⟩
        walk_at "rd"
        refine ⟨by decide, fun nl hnl => ?_⟩
        have eN : Ex HB (upd HB nl (.lst [.int n1, .int n2, .int (n1 + n2)])) := .new hnl
        have eBN := eB.trans eN
        refine ⟨x, nl, tl, o, i, [n1, n2, n1 + n2], [v1, v2, v3], rfl, tA.mono eBN, by omega, upd_same, eBN.get hT, ⟨n1, n2, v1, v2, v3, rfl, rfl⟩, fun n hn => ?_, fun k n v hk1 hk2 => ?_, fun H' e => ?_⟩
        · simp only [List.mem_cons, List.not_mem_nil, or_false] at hn
          omega
        · match k with
          | 0 =>
            cases hk1
            cases hk2
            exact dA1.mono eBN.any
          | 1 =>
            cases hk1
            cases hk2
            exact dA2.mono eBN.any
          | 2 =>
            cases hk1
            cases hk2
            exact dA3.mono eBN.any
          | k + 3 => simp at hk1
        · exact ⟨_, rfl, iteF (eBN.trans e)⟩
      · rintro σ' HB ⟨y8, rfl, eB⟩
        walk_at "rd"
        refine forTd (fun p xs H1 => Ex HA H1 ∧ SqT K H1 p xs ∧ ∀ (i : Nat) (x : V), xs[i]? = some x → ∃ p, DT K H1 x (.tup ((dueP o (n1 * shares o.ps) p).map Z.pairD))) (fun R h => ?_) (fun p xs H1 c => c.2.1)
          (fun p xs i σ' H1 => ∃ y3, σ' = [some (.ref a), some (.ref x), some (.ref y), y3, some (.int n1), some (.int n2), some (.int (shares o.ps)), some (.ref tl), y8, none, none, none, none, none, none] ∧ Ex HA H1 ∧ SqT K H1 p xs ∧ ∀ (i : Nat) (x : V), xs[i]? = some x → ∃ p, DT K H1 x (.tup ((dueP o (n1 * shares o.ps) p).map Z.pairD)))
          (fun p xs H1 c => ⟨_, rfl, c⟩) (fun p xs i σ' H1 c => by
            obtain ⟨_, _, _, c, _⟩ := c
            exact c) ?_ ?_
        · walk_at "rd"
          obtain ⟨dx, fs, i1, i2, i3⟩ := due_go (Q := R) (odA.mono eB id) (n := n1 * shares o.ps) (Int.mul_nonneg hn1 (by omega)) (fun v H' e d => by
            obtain ⟨p, xs, rfl, r1, r2, r3⟩ := due_rows d
            exact h p xs H' ⟨eB.trans e, r1, fun i x hx => let ⟨p, _, hp⟩ := r3 i x hx; ⟨p, hp⟩⟩)
          exact ⟨dx, fs, i1, i2, .inr ⟨by omega, by omega⟩, i3⟩
        · rintro p xs i x' σ' H1 hx' ⟨y3, rfl, eC, hS1, hS2⟩
          obtain ⟨pn, hdt⟩ := hS2 i x' hx'
          walk_at "rd"
          cases hdt with
          | tup hS3 hs3 =>
            rename_i rb ys
            have hyl := hs3.lenM
            have hyl2 : (dueP o (n1 * shares o.ps) pn).length = o.ms.length := by rw [dueP, List.length_map, List.length_range]
            refine lcTf (a := rb) (xs := ys) (fun R h => ⟨_, rfl, h⟩) hS3 (by omega) (List.replicate o.ms.length (.int 1)) (by rw [List.length_replicate]; omega) ?_ ?_
            · intro j y' z H' Q' hy hz' e q'
              obtain ⟨q0, h1, h2⟩ := hs3.getM hy
              have hjm : j < o.ms.length := by
                have := (List.getElem?_eq_some_iff.mp h1).1
                omega
              rw [dueP, List.getElem?_map, List.getElem?_range hjm] at h1
              cases h1
              obtain ⟨pa, rfl, h3⟩ := (h2.mono e.any).pair
              have hz2 := (List.mem_replicate.mp (List.mem_of_getElem? hz')).2
              subst hz2
              walk_at "rd"
              refine ⟨pa, _, 1, _, rfl, rfl, h3, atI_nat (j := 1) rfl, ?_⟩
              rw [low_whole (by omega)]
              exact q' H' .refl
            · intro D2 H2 hD2 e2 h2
              refine ⟨by decide, fun p1 hp1 => ?_⟩
              have e3 : Ex H2 (upd H2 p1 (.lst [.int 1])) := .new hp1
              have e23 := e2.trans e3
              have eC3 := eC.trans e23
              refine ⟨x, _, 0, _, rfl, rfl, eC3.seqT hxA, atI_nat (j := 0) rfl, a1, _, rfl, .inr (eC3.seqT hpA.m), ?_⟩
              rw [List.length_map]
              refine ⟨p1, _, _, rfl, rfl, upd_same, by omega, by omega, ?_, fun p2 hp2 => ?_⟩
              · exact small (by simp only [List.length_cons, List.length_nil]; omega)
              · rw [Int.toNat_natCast, List.flatten_replicate_singleton]
                have e4 : Ex (upd H2 p1 (.lst [.int 1])) (upd (upd H2 p1 (.lst [.int 1])) p2 (.lst (List.replicate o.ms.length (.int 1)))) := .new hp2
                refine ⟨_, _, .lst (sqL (e4.get (e3.get h2))) (dp_ones _), .lst (sqL upd_same) (dp_ones _), ones_shaped _, ones_shaped _, _, rfl, ?_⟩
                rw [eqv_rfl (ones_shaped _)]
                refine iteF ?_
                have e5 := e23.trans e4
                exact ⟨eC.trans e5, e5.seqT hS1, fun i x hx => let ⟨p, hp⟩ := hS2 i x hx; ⟨p, hp.mono e5.any⟩⟩
        · rintro p xs σ' HC ⟨y3, rfl, eC, _, _⟩
          walk_at "rd"
          have hxC := eC.seqT hxA
          have hpC := hpA.mono eC.any
          obtain ⟨cx, hcS, hcs⟩ := hpC.p
          have hcl := hcs.lenM
          refine lcT0 (a := c1) (xs := cx) (fun R h => ⟨_, rfl, x, _, 2, _, rfl, rfl, hxC, atI_nat (j := 2) rfl, h⟩) hcS (by omega) (fun i y H' => ∃ p, o.ps[i]? = some p ∧ DT K H' y (plainP p).d) (fun i y H1 H2 ⟨p, h1, h2⟩ e => ⟨p, h1, h2.mono e⟩) ?_ ?_
          · intro i y' H' Q' hy e q'
            obtain ⟨k, h1, h2⟩ := hcs.getM hy
            obtain ⟨p', b', rfl, h3, h4⟩ := (h2.mono e.any).pn
            walk_at "rd"
            refine ⟨p', _, 0, _, rfl, rfl, h3, atI_nat (j := 0) rfl, ?_⟩
            refine ⟨p', _, 1, _, rfl, rfl, h3, atI_nat (j := 1) rfl, by decide, fun T1 hT1 => ⟨by decide, fun T2 hT2 => ?_⟩⟩
            have hne : T1 ≠ T2 := lst_ne upd_same hT2
            refine q' _ _ ((Gr.new hT1).trans (.new hT2)) ⟨k, h1, .tup (sqT upd_same) (.cons (.str _) (.cons (.int _) (.cons (.tup (sqT (by rw [upd_ne hne]; exact upd_same)) .nil) .nil)))⟩
          · intro D2 ys HD hD2 eD k1 k2 k3
            refine ⟨D2, ys, rfl, .inl ⟨sqL k1, fun Tp hTp => ?_⟩⟩
            have eE : Ex HD (upd HD Tp (.tup ys)) := .new hTp
            have plainE : DT K (upd HD Tp (.tup ys)) (.ref Tp) (.tup ((o.ps.map plainP).map Pn.d)) := .tup (sqT upd_same) (DTs.of (by rw [k2, List.length_map, List.length_map, hcl]) fun i y hy => by
              obtain ⟨p, h1, h2⟩ := k3 i y hy
              exact ⟨_, by rw [List.getElem?_map, List.getElem?_map, h1]; rfl, h2.mono eE.any⟩)
            generalize upd HD Tp (.tup ys) = HE at eE plainE
            have eCE := eC.trans (eD.trans eE)
            have hxE := eCE.seqT hxA
            have hpE := hpA.mono eCE.any
            obtain ⟨ex, heS, hes⟩ := hpE.p
            have hel := hes.lenM
            refine lcR o.ps.length (fun R h => ⟨_, rfl, x, _, 2, _, rfl, rfl, hxE, atI_nat (j := 2) rfl, c1, ex, rfl, .inr heS, by rw [hel]; exact h⟩) (by omega) nob (fun _ => True) (fun i y H' => DT K H' y (freshP o i).d)
              (fun _ z => z.elim) trivial (fun _ _ _ _ _ _ => trivial) (fun i y H1 H2 h e => h.mono e) ?_ ?_
            · intro i H' Q' hi e _ q'
              obtain ⟨pp, hpp⟩ : ∃ z, ex[i]? = some z := ⟨_, List.getElem?_eq_getElem (by omega)⟩
              obtain ⟨k, h1, h2⟩ := hes.getM hpp
              obtain ⟨p', b', rfl, h3, h4⟩ := (h2.mono e.any).pn
              have hks : (freshP o i).s = k.s := by
                show (o.ps.getD i ⟨"", 0, []⟩).s = k.s
                rw [List.getD_eq_getElem?_getD, h1]
                rfl
              walk_at "rd"
              have hlog : (i : Int).natAbs.log2 < 1920 := Nat.lt_of_le_of_lt (Nat.log2_le_self _) (by omega)
              have hnm := (nameOk_len (freshP_mem ho hi).1).2
              have hnl : (freshP o i).n.length = ("p" : Str).length + (num (i : Int)).length := app_len _ _
              refine ⟨hlog, small (Nat.le_trans (Nat.le_of_eq hnl.symm) (by omega)), ?_⟩
              refine ⟨x, _, 2, _, rfl, rfl, e.seqT hxE, atI_nat (j := 2) rfl, ?_⟩
              refine ⟨c1, ex, (i : Int), _, rfl, rfl, e.seqT heS, atI_nat hpp, ?_⟩
              refine ⟨p', _, 1, _, rfl, rfl, h3, atI_nat (j := 1) rfl, by decide, fun T1 hT1 => ⟨by decide, fun T2 hT2 => ?_⟩⟩
              have hne : T1 ≠ T2 := lst_ne upd_same hT2
              refine q' _ _ ((Gr.new hT1).trans (.new hT2)) trivial (.tup (sqT upd_same) (.cons (.str _) (.cons (by rw [hks]; exact .int _) (.cons (.tup (sqT (by rw [upd_ne hne]; exact upd_same)) .nil) .nil))))
            · intro D3 zs HF hD3 eF _ l1 l2 l3
              refine ⟨D3, zs, rfl, .inl ⟨sqL l1, fun Tf hTf => ?_⟩⟩
              have eG : Ex HF (upd HF Tf (.tup zs)) := .new hTf
              have freshG : DT K (upd HF Tf (.tup zs)) (.ref Tf) (.tup ((oFresh o).ps.map Pn.d)) := .tup (sqT upd_same) (DTs.of (by rw [l2]; show _ = (((List.range o.ps.length).map (freshP o)).map Pn.d).length; rw [List.length_map, List.length_map, List.length_range]) fun i y hy => by
                have h2 := l3 i y hy
                have hi : i < o.ps.length := by
                  have := (List.getElem?_eq_some_iff.mp hy).1
                  omega
                refine ⟨(freshP o i).d, ?_, h2.mono eG.any⟩
                show (((List.range o.ps.length).map (freshP o)).map Pn.d)[i]? = _
                rw [List.getElem?_map, List.getElem?_map, List.getElem?_range hi]
                rfl)
              generalize upd HF Tf (.tup zs) = HG at eG freshG
              have eEG := eF.trans eG
              have eAG := eCE.trans eEG
              have hxG := eAG.seqT hxA
              have hpG := hpA.mono eAG.any
              have plainG := plainE.mono eEG.any
              obtain ⟨kx, hkS, hks⟩ := hpG.k
              have plainP' : ∀ H', Gr any HG H' → ∃ px, SqT K H' Tp px ∧ DTs K H' px ((o.ps.map plainP).map Pn.d) := fun H' e => by
                cases plainG with
                | tup hS hs => exact ⟨_, e.seqT hS, hs.mono e⟩
              have freshP' : ∀ H', Gr any HG H' → ∃ px, SqT K H' Tf px ∧ DTs K H' px ((oFresh o).ps.map Pn.d) := fun H' e => by
                cases freshG with
                | tup hS hs => exact ⟨_, e.seqT hS, hs.mono e⟩
              walk_at "rd"
              refine mk_order (o := oRev o) (fun a b c H2 => a = a1 ∧ c = Tp ∧ Ex HG H2 ∧ SqT K H2 b kx.reverse) (fun R h => ⟨_, rfl, x, _, 0, _, rfl, rfl, hxG, atI_nat (j := 0) rfl, _, rfl, x, _, 1, _, rfl, rfl, hxG, atI_nat (j := 1) rfl, b1, kx, rfl, hkS, fun p hp => ⟨_, rfl, h a1 p Tp _ ⟨rfl, rfl, .new hp, sqT upd_same⟩⟩⟩) (fun a b c H2 h => by
                obtain ⟨rfl, rfl, h3, h4⟩ := h
                exact ⟨h3, h3.seqT hpG.m, ⟨_, h4, by
                  show DTs K H2 kx.reverse (o.ks.reverse.map Kd.d)
                  rw [List.map_reverse]
                  exact K11.DTs.rev (hks.mono h3.any)⟩, plainP' _ h3.any, oRev_ok ho⟩) (fun y1 HI eI odI => ?_)
              have hxI := eI.seqT hxG
              have hpI := hpG.mono eI.any
              refine mk_order (o := oPlain o) (fun a b c H2 => a = a1 ∧ b = b1 ∧ c = Tp ∧ H2 = HI) (fun R h => ⟨_, rfl, x, _, 0, _, rfl, rfl, hxI, atI_nat (j := 0) rfl, _, rfl, x, _, 1, _, rfl, rfl, hxI, atI_nat (j := 1) rfl, _, rfl, h _ _ _ _ ⟨rfl, rfl, rfl, rfl⟩⟩) (fun a b c H2 h => by
                obtain ⟨rfl, rfl, rfl, rfl⟩ := h
                exact ⟨.refl, hpI.m, hpI.k, plainP' _ eI.any, oPlain_ok ho⟩) (fun y2 HJ eJ odJ => ?_)
              have hxJ := eJ.seqT hxI
              have hpJ := hpI.mono eJ.any
              refine mk_order (o := oFresh o) (fun a b c H2 => a = a1 ∧ b = b1 ∧ c = Tf ∧ H2 = HJ) (fun R h => ⟨_, rfl, x, _, 0, _, rfl, rfl, hxJ, atI_nat (j := 0) rfl, _, rfl, x, _, 1, _, rfl, rfl, hxJ, atI_nat (j := 1) rfl, _, rfl, h _ _ _ _ ⟨rfl, rfl, rfl, rfl⟩⟩) (fun a b c H2 h => by
                obtain ⟨rfl, rfl, rfl, rfl⟩ := h
                exact ⟨.refl, hpJ.m, hpJ.k, freshP' _ (eI.trans eJ).any, oFresh_ok ho⟩) (fun y3' HK eK odK => ?_)
              refine ⟨by decide, fun ol hol => ?_⟩
              have eL : Ex HK (upd HK ol (.lst [.ref y1, .ref y2, .ref y3'])) := .new hol
              have hOL : (upd HK ol (.lst [.ref y1, .ref y2, .ref y3'])) ol = some (.lst [.ref y1, .ref y2, .ref y3']) := upd_same
              generalize upd HK ol (.lst [.ref y1, .ref y2, .ref y3']) = HL at eL hOL
              have od1 := odI.mono ((eJ.trans eK).trans eL) id
              have od2' := odJ.mono (eK.trans eL) id
              have od3 := odK.mono eL id
              refine lcL0 (a := ol) (xs := [.ref y1, .ref y2, .ref y3']) (fun R h => ⟨_, rfl, h⟩) (sqL hOL) (by show 3 ≤ 90000; decide) (fun i y H' => DT K H' y (dueD o n1)) (fun i y H1 H2 h e => h.mono e) ?_ ?_
              · intro i x' H' Q' hx' e q'
                obtain ⟨yy, oo, rfl, odd, hdd⟩ : ∃ yy oo, x' = .ref yy ∧ OrdAt K C H' yy oo ∧ dueD oo n1 = dueD o n1 := by
                  match i with
                  | 0 =>
                    cases hx'
                    exact ⟨y1, _, rfl, od1.mono e id, due_rev o n1⟩
                  | 1 =>
                    cases hx'
                    exact ⟨y2, _, rfl, od2'.mono e id, due_plain o n1⟩
                  | 2 =>
                    cases hx'
                    exact ⟨y3', _, rfl, od3.mono e id, due_fresh o n1⟩
                  | i + 3 => simp at hx'
                walk_at "rd"
                refine due_go odd hn1 (fun v H'' e'' d'' => ?_)
                exact q' v H'' e'' (by rw [← hdd]; exact d'')
              · intro D4 ws HM hD4 eM m1 m2 m3
                have eAM := (((eAG.trans eI).trans eJ).trans eK).trans (eL.trans eM)
                have hTM := eAM.get hT
                refine ⟨tl, _, 0, _, rfl, rfl, sqL hTM, atI_nat (j := 0) rfl, ?_⟩
                refine ⟨tl, _, 0, _, rfl, rfl, sqL hTM, atI_nat (j := 0) rfl, ?_⟩
                refine ⟨tl, _, 0, _, rfl, rfl, sqL hTM, atI_nat (j := 0) rfl, by decide, fun rl hrl => ?_⟩
                have eN : Ex HM (upd HM rl (.lst [v1, v1, v1])) := .new hrl
                have d1N := dp_due (dA1.mono (eAM.trans eN).any)
                have hw3 : ws.length = 3 := m2
                have hw : DpAll K (upd HM rl (.lst [v1, v1, v1])) ws [dueY o n1, dueY o n1, dueY o n1] := by
                  have := dp_same (K := K) (H := upd HM rl (.lst [v1, v1, v1])) (d := dueY o n1) (ys := ws) fun y hy => by
                    obtain ⟨i, hi1, hi2⟩ := List.getElem_of_mem hy
                    exact dp_due ((m3 i y (by rw [List.getElem?_eq_getElem hi1, hi2])).mono eN.any)
                  rw [hw3] at this
                  exact this
                refine ⟨_, _, .lst (sqL (eN.get m1)) hw, .lst (sqL upd_same) (.cons d1N (.cons d1N (.cons d1N .nil))), three_shaped o n1, three_shaped o n1, _, rfl, ?_⟩
                rw [eqv_rfl (three_shaped o n1)]
                refine iteT ?_
                have eAN := eAM.trans eN
                have odN := odA.mono eAN id
                obtain ⟨dx, fa, fb, fc, i1, i2⟩ := odN
                refine ⟨y, dx, _, rfl, i1, y, o, rfl, ⟨dx, fa, fb, fc, i1, i2⟩, _, rfl, ?_⟩
                refine ⟨x, o, rfl, tA.mono eAN, fun HZ eZ => ⟨rfl, ?_⟩⟩
                rw [decide_eq_true rfl]
                exact q HZ ((g1.trans g14).trans ((eA.trans eAN).trans eZ).of)
abbrev s_law : Stmt := topS 57
theorem sc_law : FnScope ["_law_cells", "_law_k"] ["_law_cells"] (defScope s_law) := ⟨rfl, rfl, rfl, by decide +kernel, rfl, by decide +kernel, by decide +kernel⟩
def spLaw (K : PySem.W.Frag) : Sp := fun vs H Q _ => ∃ (a : Addr) (ns : List Int), vs = [.ref a] ∧ SqL K H a (ns.map V.int) ∧ ns.length ≤ 63 ∧ ∀ H', Q (.bl true) H'
theorem ok_law (B : Bl mg) (c_law_right : Cal P w K mg base 8 "_law_right" ["_law_pool_here"] spRight) (c_law_pool : Cal P w K mg base 2 "_law_pool" ["_law_cells", "_law_k"] (spPool K)) : Body P w K mg base 8 "law" ["_law_cells", "_law_k"] s_law (spLaw K) := by
  intro f cdv A outer s H vs Q E hr h
  obtain ⟨a, ns, rfl, hS, hl, q⟩ := h
  refine ⟨_, (pss_one (ps_ret (pe_callB (r := rAll K) (cr_all rfl) (by rfl) B.all_ (by decide +kernel) (pa_cons (pe_lc (own := [("_law_k", 1)]) (g := gName 1) rfl sc_law.nd (pi_range1 rfl B.range_ (pa_cons (pe_callB (call_max2 rfl) (by rfl) B.max_ (by decide +kernel) (pa_cons pe_int (pa_cons (pe_callB (call_min2 rfl) (by rfl) B.min_ (by decide +kernel) (pa_cons (pe_callB (r := rLenQ K) call_len_seq (by rfl) B.len_ PySem.boot_len (pa_cons (pv 0) pa_nil)) (pa_cons pe_int pa_nil))) pa_nil))) pa_nil)) (blkOk_by (N := ["_law_cells", "_law_k"]) (sc := defScope s_law) (by decide +kernel)) (fun _ _ _ _ _ => (pg_name (i := 1) sc_law.nd rfl (.inl rfl))) (fun _ _ _ _ _ => pts_nil) (fun _ _ _ _ _ => (pe_cal c_law_right hr (by decide) rfl (pa_cons (pe_cal c_law_pool hr (by decide) rfl (pa_cons (pv 0) (pa_cons (pv 1) pa_nil))) pa_nil)))) pa_nil)))), ?_⟩
  walk_at "rd"
  have hm : ∃ n : Nat, n ≤ 6 ∧ (if (if (6 : Int) < ((ns.map V.int).length : Int) then (6 : Int) else ((ns.map V.int).length : Int)) > 2 then (if (6 : Int) < ((ns.map V.int).length : Int) then (6 : Int) else ((ns.map V.int).length : Int)) else 2) = (n : Int) := by
    generalize ((ns.map V.int).length : Int) = L
    by_cases h1 : (6 : Int) < L
    · rw [if_pos h1]
      exact ⟨6, by decide, by decide⟩
    · rw [if_neg h1]
      by_cases h2 : L > 2
      · rw [if_pos h2]
        exact ⟨L.toNat, by omega, by omega⟩
      · rw [if_neg h2]
        exact ⟨2, by decide, by decide⟩
  obtain ⟨n, hn6, hn⟩ := hm
  refine lcR n (fun R h => ⟨_, rfl, a, _, rfl, .inl hS, _, _, rfl, _, _, rfl, by rw [hn]; exact h⟩) (by omega) nob (fun _ => True) (fun i y H' => y = .bl true) (fun _ z => z.elim) trivial (fun _ _ _ _ _ _ => trivial) (fun i y H1 H2 h e => h) ?_ ?_
  · intro i H' Q' hi e _ q'
    walk_at "rd"
    refine ⟨a, i, ns, rfl, e.seqL hS id, hl, ⟨by omega, by omega⟩, fun p H1 e1 hp pl => ?_⟩
    refine ⟨p, rfl, pl, fun H2 g2 => ?_⟩
    exact q' _ H2 (Gr.fresh e1 hp g2) trivial rfl
  · intro D1 ys H' hD e _ h1 h2 h3
    have ey : ys = (List.replicate n true).map V.bl := ext_of (by rw [h2, List.length_map, List.length_replicate]) fun i y hy => by
      have hi := (List.getElem?_eq_some_iff.mp hy).1
      rw [h3 i y hy, List.getElem?_map, List.getElem?_replicate, if_pos (by omega)]
      rfl
    rw [ey] at h1
    refine ⟨D1, List.replicate n true, rfl, sqL h1, ?_⟩
    have et : (List.replicate n true).all id = true := by simp
    rw [et]
    exact q H'
end
end K11

namespace K11
open PySem PySem.Spec PyProof.Rows L2
abbrev s_InvalidNumber__init : Stmt := inClass (topS 3) 0
abbrev s_InvalidText__init : Stmt := inClass (topS 4) 0
abbrev s_InvalidMeasures__init : Stmt := inClass (topS 5) 0
abbrev s_InvalidKinds__init : Stmt := inClass (topS 6) 0
abbrev s_InvalidPeople__init : Stmt := inClass (topS 7) 0
abbrev s_Order__eq : Stmt := inClass (topS 26) 6
abbrev s_Order__repr : Stmt := inClass (topS 26) 8
abbrev s_read_order : Stmt := topS 27
abbrev s_told : Stmt := topS 38
abbrev s_digit : Stmt := topS 39
def fa_more : List He.Fa := [.cls "Order", .meth "Order" "due", .meth "Order" "__str__", .mkr "Order", .noat "Order" "_measures", .noat "Order" "_kinds", .noat "Order" "_people", .noat "Order" "_text"]
/-! ### the head -/
def fn : List He.DefD := [
  ⟨("InvalidNumber", (some "__init__")), "__init__", "InvalidNumber.__init__", defArgs s_InvalidNumber__init, defBody s_InvalidNumber__init, defScope s_InvalidNumber__init, [], []⟩,
  ⟨("InvalidText", (some "__init__")), "__init__", "InvalidText.__init__", defArgs s_InvalidText__init, defBody s_InvalidText__init, defScope s_InvalidText__init, [], []⟩,
  ⟨("InvalidMeasures", (some "__init__")), "__init__", "InvalidMeasures.__init__", defArgs s_InvalidMeasures__init, defBody s_InvalidMeasures__init, defScope s_InvalidMeasures__init, [], []⟩,
  ⟨("InvalidKinds", (some "__init__")), "__init__", "InvalidKinds.__init__", defArgs s_InvalidKinds__init, defBody s_InvalidKinds__init, defScope s_InvalidKinds__init, [], []⟩,
  ⟨("InvalidPeople", (some "__init__")), "__init__", "InvalidPeople.__init__", defArgs s_InvalidPeople__init, defBody s_InvalidPeople__init, defScope s_InvalidPeople__init, [], []⟩,
  ⟨("is_integer", none), "is_integer", "is_integer", defArgs s_is_integer, defBody s_is_integer, defScope s_is_integer, [], []⟩,
  ⟨("is_number", none), "is_number", "is_number", defArgs s_is_number, defBody s_is_number, defScope s_is_number, [], []⟩,
  ⟨("check_number", none), "check_number", "check_number", defArgs s_check_number, defBody s_check_number, defScope s_check_number, [], []⟩,
  ⟨("is_integer_within", none), "is_integer_within", "is_integer_within", defArgs s_is_integer_within, defBody s_is_integer_within, defScope s_is_integer_within, [], []⟩,
  ⟨("is_tuple_of", none), "is_tuple_of", "is_tuple_of", defArgs s_is_tuple_of, defBody s_is_tuple_of, defScope s_is_tuple_of, [], []⟩,
  ⟨("is_name", none), "is_name", "is_name", defArgs s_is_name, defBody s_is_name, defScope s_is_name, [], []⟩,
  ⟨("Order", (some "__init__")), "__init__", "Order.__init__", defArgs s_Order__init, defBody s_Order__init, defScope s_Order__init, [], []⟩,
  ⟨("Order", (some "due")), "due", "Order.due", defArgs s_Order_due, defBody s_Order_due, defScope s_Order_due, [], []⟩,
  ⟨("Order", (some "__eq__")), "__eq__", "Order.__eq__", defArgs s_Order__eq, defBody s_Order__eq, defScope s_Order__eq, [], []⟩,
  ⟨("Order", (some "__str__")), "__str__", "Order.__str__", defArgs s_Order__str, defBody s_Order__str, defScope s_Order__str, [], []⟩,
  ⟨("Order", (some "__repr__")), "__repr__", "Order.__repr__", defArgs s_Order__repr, defBody s_Order__repr, defScope s_Order__repr, [], []⟩,
  ⟨("read_order", none), "read_order", "read_order", defArgs s_read_order, defBody s_read_order, defScope s_read_order, [], []⟩,
  ⟨("are_worths", none), "are_worths", "are_worths", defArgs s_are_worths, defBody s_are_worths, defScope s_are_worths, [], []⟩,
  ⟨("_check_measures", none), "_check_measures", "_check_measures", defArgs s_check_measures, defBody s_check_measures, defScope s_check_measures, [], []⟩,
  ⟨("_check_kinds", none), "_check_kinds", "_check_kinds", defArgs s_check_kinds, defBody s_check_kinds, defScope s_check_kinds, [], []⟩,
  ⟨("_check_people", none), "_check_people", "_check_people", defArgs s_check_people, defBody s_check_people, defScope s_check_people, [], []⟩,
  ⟨("_is_kind", none), "_is_kind", "_is_kind", defArgs s_is_kind, defBody s_is_kind, defScope s_is_kind, [], []⟩,
  ⟨("_is_person", none), "_is_person", "_is_person", defArgs s_is_person, defBody s_is_person, defScope s_is_person, [], []⟩,
  ⟨("_are_refused", none), "_are_refused", "_are_refused", defArgs s_are_refused, defBody s_are_refused, defScope s_are_refused, [], []⟩,
  ⟨("_most_people", none), "_most_people", "_most_people", defArgs s_most_people, defBody s_most_people, defScope s_most_people, [], []⟩,
  ⟨("_names", none), "_names", "_names", defArgs s_names, defBody s_names, defScope s_names, [], []⟩,
  ⟨("_text_of", none), "_text_of", "_text_of", defArgs s_text_of, defBody s_text_of, defScope s_text_of, [], []⟩,
  ⟨("_told", none), "_told", "_told", defArgs s_told, defBody s_told, defScope s_told, [], []⟩,
  ⟨("_digit", none), "_digit", "_digit", defArgs s_digit, defBody s_digit, defScope s_digit, [], []⟩,
  ⟨("_box_worth", none), "_box_worth", "_box_worth", defArgs s_box_worth, defBody s_box_worth, defScope s_box_worth, [], []⟩,
  ⟨("_parts", none), "_parts", "_parts", defArgs s_parts, defBody s_parts, defScope s_parts, [], []⟩,
  ⟨("_lowest", none), "_lowest", "_lowest", defArgs s_lowest, defBody s_lowest, defScope s_lowest, [], []⟩,
  ⟨("_law_cell", none), "_law_cell", "_law_cell", defArgs s_law_cell, defBody s_law_cell, defScope s_law_cell, [], []⟩,
  ⟨("_law_pool", none), "_law_pool", "_law_pool", defArgs s_law_pool, defBody s_law_pool, defScope s_law_pool, [], []⟩,
  ⟨("_law_draw", none), "_law_draw", "_law_draw", defArgs s_law_draw, defBody s_law_draw, defScope s_law_draw, [], []⟩,
  ⟨("_law_name", none), "_law_name", "_law_name", defArgs s_law_name, defBody s_law_name, defScope s_law_name, [], []⟩,
  ⟨("_law_parts", none), "_law_parts", "_law_parts", defArgs s_law_parts, defBody s_law_parts, defScope s_law_parts, [], []⟩,
  ⟨("_law_text", none), "_law_text", "_law_text", defArgs s_law_text, defBody s_law_text, defScope s_law_text, [], []⟩,
  ⟨("_law_common", none), "_law_common", "_law_common", defArgs s_law_common, defBody s_law_common, defScope s_law_common, [], []⟩,
  ⟨("_law_amount", none), "_law_amount", "_law_amount", defArgs s_law_amount, defBody s_law_amount, defScope s_law_amount, [], []⟩,
  ⟨("_law_added", none), "_law_added", "_law_added", defArgs s_law_added, defBody s_law_added, defScope s_law_added, [], []⟩,
  ⟨("_law_same", none), "_law_same", "_law_same", defArgs s_law_same, defBody s_law_same, defScope s_law_same, [], []⟩,
  ⟨("_law_pairs_right", none), "_law_pairs_right", "_law_pairs_right", defArgs s_law_pairs_right, defBody s_law_pairs_right, defScope s_law_pairs_right, [], []⟩,
  ⟨("_law_place_right", none), "_law_place_right", "_law_place_right", defArgs s_law_place_right, defBody s_law_place_right, defScope s_law_place_right, [], []⟩,
  ⟨("_law_right", none), "_law_right", "_law_right", defArgs s_law_right, defBody s_law_right, defScope s_law_right, [], []⟩,
  ⟨("law", none), "law", "law", defArgs s_law, defBody s_law, defScope s_law, [], []⟩]
def fa : List He.Fa := [
  .glo "WrongValue",
  .glo "InvalidNumber",
  .glo "InvalidText",
  .glo "InvalidMeasures",
  .glo "InvalidKinds",
  .glo "InvalidPeople",
  .int "MOST_KINDS" 4,
  .int "MOST_PEOPLE" 3,
  .int "MOST_COUNT" 3,
  .int "MOST_WORTH" 6,
  .int "MOST_SHARE" 3,
  .str "_LETTERS" "abcdefghijklmnopqrstuvwxyz",
  .str "_LETTERS_AND_DIGITS" "abcdefghijklmnopqrstuvwxyz0123456789",
  .int "_LONGEST_NAME" 8,
  .glo "is_integer",
  .glo "is_number",
  .glo "check_number",
  .glo "is_integer_within",
  .glo "is_tuple_of",
  .glo "is_name",
  .int "_MOST_MEASURES" 2,
  .int "_FEWEST_PEOPLE" 2,
  .glo "Order",
  .glo "read_order",
  .glo "are_worths",
  .glo "_check_measures",
  .glo "_check_kinds",
  .glo "_check_people",
  .glo "_is_kind",
  .glo "_is_person",
  .glo "_are_refused",
  .glo "_most_people",
  .glo "_names",
  .glo "_text_of",
  .glo "_told",
  .glo "_digit",
  .glo "_box_worth",
  .glo "_parts",
  .glo "_lowest",
  .glo "_law_cell",
  .glo "_law_pool",
  .glo "_law_draw",
  .glo "_law_name",
  .glo "_law_parts",
  .glo "_law_text",
  .glo "_law_common",
  .glo "_law_amount",
  .glo "_law_added",
  .glo "_law_same",
  .glo "_law_pairs_right",
  .glo "_law_place_right",
  .glo "_law_right",
  .glo "law",
  .free "isinstance",
  .free "len",
  .free "all",
  .free "any",
  .free "enumerate",
  .free "tuple",
  .free "list",
  .free "dict",
  .free "sum",
  .free "range",
  .free "int",
  .free "str",
  .free "bool",
  .free "abs",
  .free "min",
  .free "max",
  .free "divmod",
  .free "repr",
  .free "sorted",
  .free "zip",
  .free "reversed",
  .free "set",
  .free "type"] ++ fa_more
abbrev R : PySem.W.OpenRow := PySem.W.OpenLaw.row PySem.Challenge.rw_evenboxes_k11_whole_dues_fit_together
abbrev qv : Program := PySem.W.view R.prog [0, 57]
def loose0 : List Str := ["WrongValue", "InvalidNumber", "InvalidText", "InvalidMeasures", "InvalidKinds", "InvalidPeople", "MOST_KINDS", "MOST_PEOPLE", "MOST_COUNT", "MOST_WORTH", "MOST_SHARE", "_LETTERS", "_LETTERS_AND_DIGITS", "_LONGEST_NAME", "is_integer", "is_number", "check_number", "is_integer_within", "is_tuple_of", "is_name", "_MOST_MEASURES", "_FEWEST_PEOPLE", "Order", "read_order", "are_worths", "_check_measures", "_check_kinds", "_check_people", "_is_kind", "_is_person"]
def loose1 : List Str := ["_are_refused", "_most_people", "_names", "_text_of", "_told", "_digit", "_box_worth", "_parts", "_lowest", "_law_cell", "_law_pool", "_law_draw", "_law_name", "_law_parts", "_law_text", "_law_common", "_law_amount", "_law_added", "_law_same", "_law_pairs_right", "_law_place_right", "_law_right"]
def loose : List Str := loose0 ++ loose1
def lawAt : Nat := 57
abbrev AlZ : Type := Bool × He.AlD
def ex (K : PySem.W.Frag) : Bool := decide (PySem.W.nsIn K mainGlobals "gcd" = some (some (.builtin "math.gcd")))
def obsZ (K : PySem.W.Frag) : AlZ := (ex K, He.obsD fa fn K)
def obsZG (g : Addr → Option Obj) : AlZ := obsZ (He.frG g (He.asD g 6))
def hk : PySem.W.Hook where
  α := AlZ
  obs := fun s => obsZG s.heap.get?
  val := fun _ => (true, He.valD fn)
  says := fun _ h => ∃ K : PySem.W.Frag, K.In h ∧ obsZ K = (true, He.valD fn)
  of := fun _ _ e => ⟨_, He.frG_in, e⟩
  keeps := fun _ _ _ ⟨K, hK, c⟩ k => ⟨K, PySem.W.Frag.In.keeps hK k, c⟩
def ob (s : PySem.W.SharedT) : AlZ := obsZG (HandSHeadRun.getT s)
theorem ob_eq (s : PySem.W.SharedT) : ob s = hk.obs s.abs := by
  have e : HandSHeadRun.getT s = s.abs.heap.get? := funext (HandSHeadRun.getT_eq s)
  unfold ob
  rw [e] <;> rfl
theorem run (w : World) : HandSHeadRun.RunEqI R qv hk ob 20000 loose w := by
  unfold HandSHeadRun.RunEqI
  kernel_rfl

end K11

namespace K11
open PySem PySem.Spec PyProof.Rows L2 Z ZE
theorem FnOk.calm {P : Program} {w : World} {K : PySem.W.Frag} {mg : Str → Option Value} {base : Heap} {k : Nat} {f : Addr} {fd : FuncData} {ps : List Str} {sp : Sp} (F : FnOk P w K mg base (L2.CX P w) k f fd ps sp)
    (hsp : ∀ vs H Q E, sp vs H Q E → sp vs H Q E0) : FnOk P w K mg base L2.CX0 k f fd ps sp :=
  ⟨F.len, fun A outer s H args us vs Q E hr he hb hv hs => codeAny_mono (F.run A outer s H args us vs Q E0 hr he hb hv (hsp _ _ _ _ hs)) fun r s' hq => by
    cases r with
    | error er =>
      obtain ⟨_, _, _, _, _, _, _, _, _, _, _, _, z⟩ := (show L2.CX P w outer H s E0 er s' from hq)
      exact z.elim
    | ok fl => cases fl with
      | ret u => exact hq
      | next => exact False.elim hq
      | brk => exact False.elim hq
      | cont => exact False.elim hq⟩
section
variable {P : Program} {w : World} {K : PySem.W.Frag} {mg : Str → Option Value} {base h : Heap}
theorem df_of {x : Str} {st : Stmt} (hm : mg x = some (.ref (He.ga K x))) (F : ∃ fd, FunD K x x (defArgs st) (defBody st) (defScope st) [] [] (He.ga K x) fd) : Df K mg x st := by
  obtain ⟨fd, F⟩ := F
  exact ⟨_, fd, hm, F⟩
theorem df_is_integer (X : K.In h) (G : h.Ns mainGlobals mg) (c : He.SaysD fa fn K) : Df K mg "is_integer" s_is_integer := df_of (He.glo_ok X G (c.fact 14 (f := .glo "is_integer") rfl)) (c.def_ 5 (d := ⟨("is_integer", none), "is_integer", "is_integer", defArgs s_is_integer, defBody s_is_integer, defScope s_is_integer, [], []⟩) rfl)
theorem df_is_number (X : K.In h) (G : h.Ns mainGlobals mg) (c : He.SaysD fa fn K) : Df K mg "is_number" s_is_number := df_of (He.glo_ok X G (c.fact 15 (f := .glo "is_number") rfl)) (c.def_ 6 (d := ⟨("is_number", none), "is_number", "is_number", defArgs s_is_number, defBody s_is_number, defScope s_is_number, [], []⟩) rfl)
theorem df_check_number (X : K.In h) (G : h.Ns mainGlobals mg) (c : He.SaysD fa fn K) : Df K mg "check_number" s_check_number := df_of (He.glo_ok X G (c.fact 16 (f := .glo "check_number") rfl)) (c.def_ 7 (d := ⟨("check_number", none), "check_number", "check_number", defArgs s_check_number, defBody s_check_number, defScope s_check_number, [], []⟩) rfl)
theorem df_is_integer_within (X : K.In h) (G : h.Ns mainGlobals mg) (c : He.SaysD fa fn K) : Df K mg "is_integer_within" s_is_integer_within := df_of (He.glo_ok X G (c.fact 17 (f := .glo "is_integer_within") rfl)) (c.def_ 8 (d := ⟨("is_integer_within", none), "is_integer_within", "is_integer_within", defArgs s_is_integer_within, defBody s_is_integer_within, defScope s_is_integer_within, [], []⟩) rfl)
theorem df_is_tuple_of (X : K.In h) (G : h.Ns mainGlobals mg) (c : He.SaysD fa fn K) : Df K mg "is_tuple_of" s_is_tuple_of := df_of (He.glo_ok X G (c.fact 18 (f := .glo "is_tuple_of") rfl)) (c.def_ 9 (d := ⟨("is_tuple_of", none), "is_tuple_of", "is_tuple_of", defArgs s_is_tuple_of, defBody s_is_tuple_of, defScope s_is_tuple_of, [], []⟩) rfl)
theorem df_is_name (X : K.In h) (G : h.Ns mainGlobals mg) (c : He.SaysD fa fn K) : Df K mg "is_name" s_is_name := df_of (He.glo_ok X G (c.fact 19 (f := .glo "is_name") rfl)) (c.def_ 10 (d := ⟨("is_name", none), "is_name", "is_name", defArgs s_is_name, defBody s_is_name, defScope s_is_name, [], []⟩) rfl)
theorem df_are_worths (X : K.In h) (G : h.Ns mainGlobals mg) (c : He.SaysD fa fn K) : Df K mg "are_worths" s_are_worths := df_of (He.glo_ok X G (c.fact 24 (f := .glo "are_worths") rfl)) (c.def_ 17 (d := ⟨("are_worths", none), "are_worths", "are_worths", defArgs s_are_worths, defBody s_are_worths, defScope s_are_worths, [], []⟩) rfl)
theorem df_check_measures (X : K.In h) (G : h.Ns mainGlobals mg) (c : He.SaysD fa fn K) : Df K mg "_check_measures" s_check_measures := df_of (He.glo_ok X G (c.fact 25 (f := .glo "_check_measures") rfl)) (c.def_ 18 (d := ⟨("_check_measures", none), "_check_measures", "_check_measures", defArgs s_check_measures, defBody s_check_measures, defScope s_check_measures, [], []⟩) rfl)
theorem df_check_kinds (X : K.In h) (G : h.Ns mainGlobals mg) (c : He.SaysD fa fn K) : Df K mg "_check_kinds" s_check_kinds := df_of (He.glo_ok X G (c.fact 26 (f := .glo "_check_kinds") rfl)) (c.def_ 19 (d := ⟨("_check_kinds", none), "_check_kinds", "_check_kinds", defArgs s_check_kinds, defBody s_check_kinds, defScope s_check_kinds, [], []⟩) rfl)
theorem df_check_people (X : K.In h) (G : h.Ns mainGlobals mg) (c : He.SaysD fa fn K) : Df K mg "_check_people" s_check_people := df_of (He.glo_ok X G (c.fact 27 (f := .glo "_check_people") rfl)) (c.def_ 20 (d := ⟨("_check_people", none), "_check_people", "_check_people", defArgs s_check_people, defBody s_check_people, defScope s_check_people, [], []⟩) rfl)
theorem df_is_kind (X : K.In h) (G : h.Ns mainGlobals mg) (c : He.SaysD fa fn K) : Df K mg "_is_kind" s_is_kind := df_of (He.glo_ok X G (c.fact 28 (f := .glo "_is_kind") rfl)) (c.def_ 21 (d := ⟨("_is_kind", none), "_is_kind", "_is_kind", defArgs s_is_kind, defBody s_is_kind, defScope s_is_kind, [], []⟩) rfl)
theorem df_is_person (X : K.In h) (G : h.Ns mainGlobals mg) (c : He.SaysD fa fn K) : Df K mg "_is_person" s_is_person := df_of (He.glo_ok X G (c.fact 29 (f := .glo "_is_person") rfl)) (c.def_ 22 (d := ⟨("_is_person", none), "_is_person", "_is_person", defArgs s_is_person, defBody s_is_person, defScope s_is_person, [], []⟩) rfl)
theorem df_are_refused (X : K.In h) (G : h.Ns mainGlobals mg) (c : He.SaysD fa fn K) : Df K mg "_are_refused" s_are_refused := df_of (He.glo_ok X G (c.fact 30 (f := .glo "_are_refused") rfl)) (c.def_ 23 (d := ⟨("_are_refused", none), "_are_refused", "_are_refused", defArgs s_are_refused, defBody s_are_refused, defScope s_are_refused, [], []⟩) rfl)
theorem df_most_people (X : K.In h) (G : h.Ns mainGlobals mg) (c : He.SaysD fa fn K) : Df K mg "_most_people" s_most_people := df_of (He.glo_ok X G (c.fact 31 (f := .glo "_most_people") rfl)) (c.def_ 24 (d := ⟨("_most_people", none), "_most_people", "_most_people", defArgs s_most_people, defBody s_most_people, defScope s_most_people, [], []⟩) rfl)
theorem df_names (X : K.In h) (G : h.Ns mainGlobals mg) (c : He.SaysD fa fn K) : Df K mg "_names" s_names := df_of (He.glo_ok X G (c.fact 32 (f := .glo "_names") rfl)) (c.def_ 25 (d := ⟨("_names", none), "_names", "_names", defArgs s_names, defBody s_names, defScope s_names, [], []⟩) rfl)
theorem df_text_of (X : K.In h) (G : h.Ns mainGlobals mg) (c : He.SaysD fa fn K) : Df K mg "_text_of" s_text_of := df_of (He.glo_ok X G (c.fact 33 (f := .glo "_text_of") rfl)) (c.def_ 26 (d := ⟨("_text_of", none), "_text_of", "_text_of", defArgs s_text_of, defBody s_text_of, defScope s_text_of, [], []⟩) rfl)
theorem df_box_worth (X : K.In h) (G : h.Ns mainGlobals mg) (c : He.SaysD fa fn K) : Df K mg "_box_worth" s_box_worth := df_of (He.glo_ok X G (c.fact 36 (f := .glo "_box_worth") rfl)) (c.def_ 29 (d := ⟨("_box_worth", none), "_box_worth", "_box_worth", defArgs s_box_worth, defBody s_box_worth, defScope s_box_worth, [], []⟩) rfl)
theorem df_parts (X : K.In h) (G : h.Ns mainGlobals mg) (c : He.SaysD fa fn K) : Df K mg "_parts" s_parts := df_of (He.glo_ok X G (c.fact 37 (f := .glo "_parts") rfl)) (c.def_ 30 (d := ⟨("_parts", none), "_parts", "_parts", defArgs s_parts, defBody s_parts, defScope s_parts, [], []⟩) rfl)
theorem df_lowest (X : K.In h) (G : h.Ns mainGlobals mg) (c : He.SaysD fa fn K) : Df K mg "_lowest" s_lowest := df_of (He.glo_ok X G (c.fact 38 (f := .glo "_lowest") rfl)) (c.def_ 31 (d := ⟨("_lowest", none), "_lowest", "_lowest", defArgs s_lowest, defBody s_lowest, defScope s_lowest, [], []⟩) rfl)
theorem df_law_cell (X : K.In h) (G : h.Ns mainGlobals mg) (c : He.SaysD fa fn K) : Df K mg "_law_cell" s_law_cell := df_of (He.glo_ok X G (c.fact 39 (f := .glo "_law_cell") rfl)) (c.def_ 32 (d := ⟨("_law_cell", none), "_law_cell", "_law_cell", defArgs s_law_cell, defBody s_law_cell, defScope s_law_cell, [], []⟩) rfl)
theorem df_law_pool (X : K.In h) (G : h.Ns mainGlobals mg) (c : He.SaysD fa fn K) : Df K mg "_law_pool" s_law_pool := df_of (He.glo_ok X G (c.fact 40 (f := .glo "_law_pool") rfl)) (c.def_ 33 (d := ⟨("_law_pool", none), "_law_pool", "_law_pool", defArgs s_law_pool, defBody s_law_pool, defScope s_law_pool, [], []⟩) rfl)
theorem df_law_draw (X : K.In h) (G : h.Ns mainGlobals mg) (c : He.SaysD fa fn K) : Df K mg "_law_draw" s_law_draw := df_of (He.glo_ok X G (c.fact 41 (f := .glo "_law_draw") rfl)) (c.def_ 34 (d := ⟨("_law_draw", none), "_law_draw", "_law_draw", defArgs s_law_draw, defBody s_law_draw, defScope s_law_draw, [], []⟩) rfl)
theorem df_law_name (X : K.In h) (G : h.Ns mainGlobals mg) (c : He.SaysD fa fn K) : Df K mg "_law_name" s_law_name := df_of (He.glo_ok X G (c.fact 42 (f := .glo "_law_name") rfl)) (c.def_ 35 (d := ⟨("_law_name", none), "_law_name", "_law_name", defArgs s_law_name, defBody s_law_name, defScope s_law_name, [], []⟩) rfl)
theorem df_law_parts (X : K.In h) (G : h.Ns mainGlobals mg) (c : He.SaysD fa fn K) : Df K mg "_law_parts" s_law_parts := df_of (He.glo_ok X G (c.fact 43 (f := .glo "_law_parts") rfl)) (c.def_ 36 (d := ⟨("_law_parts", none), "_law_parts", "_law_parts", defArgs s_law_parts, defBody s_law_parts, defScope s_law_parts, [], []⟩) rfl)
theorem df_law_text (X : K.In h) (G : h.Ns mainGlobals mg) (c : He.SaysD fa fn K) : Df K mg "_law_text" s_law_text := df_of (He.glo_ok X G (c.fact 44 (f := .glo "_law_text") rfl)) (c.def_ 37 (d := ⟨("_law_text", none), "_law_text", "_law_text", defArgs s_law_text, defBody s_law_text, defScope s_law_text, [], []⟩) rfl)
theorem df_law_common (X : K.In h) (G : h.Ns mainGlobals mg) (c : He.SaysD fa fn K) : Df K mg "_law_common" s_law_common := df_of (He.glo_ok X G (c.fact 45 (f := .glo "_law_common") rfl)) (c.def_ 38 (d := ⟨("_law_common", none), "_law_common", "_law_common", defArgs s_law_common, defBody s_law_common, defScope s_law_common, [], []⟩) rfl)
theorem df_law_amount (X : K.In h) (G : h.Ns mainGlobals mg) (c : He.SaysD fa fn K) : Df K mg "_law_amount" s_law_amount := df_of (He.glo_ok X G (c.fact 46 (f := .glo "_law_amount") rfl)) (c.def_ 39 (d := ⟨("_law_amount", none), "_law_amount", "_law_amount", defArgs s_law_amount, defBody s_law_amount, defScope s_law_amount, [], []⟩) rfl)
theorem df_law_added (X : K.In h) (G : h.Ns mainGlobals mg) (c : He.SaysD fa fn K) : Df K mg "_law_added" s_law_added := df_of (He.glo_ok X G (c.fact 47 (f := .glo "_law_added") rfl)) (c.def_ 40 (d := ⟨("_law_added", none), "_law_added", "_law_added", defArgs s_law_added, defBody s_law_added, defScope s_law_added, [], []⟩) rfl)
theorem df_law_same (X : K.In h) (G : h.Ns mainGlobals mg) (c : He.SaysD fa fn K) : Df K mg "_law_same" s_law_same := df_of (He.glo_ok X G (c.fact 48 (f := .glo "_law_same") rfl)) (c.def_ 41 (d := ⟨("_law_same", none), "_law_same", "_law_same", defArgs s_law_same, defBody s_law_same, defScope s_law_same, [], []⟩) rfl)
theorem df_law_pairs_right (X : K.In h) (G : h.Ns mainGlobals mg) (c : He.SaysD fa fn K) : Df K mg "_law_pairs_right" s_law_pairs_right := df_of (He.glo_ok X G (c.fact 49 (f := .glo "_law_pairs_right") rfl)) (c.def_ 42 (d := ⟨("_law_pairs_right", none), "_law_pairs_right", "_law_pairs_right", defArgs s_law_pairs_right, defBody s_law_pairs_right, defScope s_law_pairs_right, [], []⟩) rfl)
theorem df_law_place_right (X : K.In h) (G : h.Ns mainGlobals mg) (c : He.SaysD fa fn K) : Df K mg "_law_place_right" s_law_place_right := df_of (He.glo_ok X G (c.fact 50 (f := .glo "_law_place_right") rfl)) (c.def_ 43 (d := ⟨("_law_place_right", none), "_law_place_right", "_law_place_right", defArgs s_law_place_right, defBody s_law_place_right, defScope s_law_place_right, [], []⟩) rfl)
theorem df_law_right (X : K.In h) (G : h.Ns mainGlobals mg) (c : He.SaysD fa fn K) : Df K mg "_law_right" s_law_right := df_of (He.glo_ok X G (c.fact 51 (f := .glo "_law_right") rfl)) (c.def_ 44 (d := ⟨("_law_right", none), "_law_right", "_law_right", defArgs s_law_right, defBody s_law_right, defScope s_law_right, [], []⟩) rfl)
theorem df_law (X : K.In h) (G : h.Ns mainGlobals mg) (c : He.SaysD fa fn K) : Df K mg "law" s_law := df_of (He.glo_ok X G (c.fact 52 (f := .glo "law") rfl)) (c.def_ 45 (d := ⟨("law", none), "law", "law", defArgs s_law, defBody s_law, defScope s_law, [], []⟩) rfl)
theorem bl_of (X : K.In h) (G : h.Ns mainGlobals mg) (c : He.SaysD fa fn K) : Bl mg := ⟨(He.free_ok X G (c.fact 53 (f := .free "isinstance") rfl)), (He.free_ok X G (c.fact 54 (f := .free "len") rfl)), (He.free_ok X G (c.fact 55 (f := .free "all") rfl)), (He.free_ok X G (c.fact 56 (f := .free "any") rfl)), (He.free_ok X G (c.fact 57 (f := .free "enumerate") rfl)), (He.free_ok X G (c.fact 58 (f := .free "tuple") rfl)), (He.free_ok X G (c.fact 59 (f := .free "list") rfl)), (He.free_ok X G (c.fact 60 (f := .free "dict") rfl)), (He.free_ok X G (c.fact 61 (f := .free "sum") rfl)), (He.free_ok X G (c.fact 62 (f := .free "range") rfl)), (He.free_ok X G (c.fact 63 (f := .free "int") rfl)), (He.free_ok X G (c.fact 64 (f := .free "str") rfl)), (He.free_ok X G (c.fact 65 (f := .free "bool") rfl)), (He.free_ok X G (c.fact 66 (f := .free "abs") rfl)), (He.free_ok X G (c.fact 67 (f := .free "min") rfl)), (He.free_ok X G (c.fact 68 (f := .free "max") rfl)), (He.free_ok X G (c.fact 69 (f := .free "divmod") rfl)), (He.free_ok X G (c.fact 70 (f := .free "repr") rfl)), (He.free_ok X G (c.fact 71 (f := .free "sorted") rfl)), (He.free_ok X G (c.fact 72 (f := .free "zip") rfl)), (He.free_ok X G (c.fact 73 (f := .free "reversed") rfl)), (He.free_ok X G (c.fact 74 (f := .free "set") rfl))⟩
theorem law_fn {f : Addr} {fd : FuncData} (F : FunD K "law" "law" (defArgs s_law) (defBody s_law) (defScope s_law) [] [] f fd) (body : Body P w K mg base 8 "law" ["_law_cells", "_law_k"] s_law (spLaw K)) : FnOk P w K mg base (L2.CX P w) 9 f fd ["_law_cells"] (spLaw K) :=
  F.ok sc_law (fun vs H Q E h => by
    obtain ⟨a, ns, rfl, _⟩ := h
    rfl) fun cdv A outer s H vs Q E hr h => by
    obtain ⟨t, h1, h2⟩ := body f cdv A outer s H vs Q E hr h
    exact ⟨t, h1.nox, h2⟩
theorem g_gcd_of (X : K.In h) (G : h.Ns mainGlobals mg) (e : ex K = true) : mg "gcd" = some (.builtin "math.gcd") := PySem.W.mg_of X G (of_decide_eq_true e)
theorem cls_of (c : He.SaysD fa fn K) : Cls K (He.ga K "Order") := He.cls_ok (c.fact 76 (f := .cls "Order") rfl)
theorem ordc_of (c : He.SaysD fa fn K) : OrdC K (He.ga K "Order") := ⟨cls_of c, He.noat_ok (c.fact 80 (f := .noat "Order" "_measures") rfl), He.noat_ok (c.fact 81 (f := .noat "Order" "_kinds") rfl), He.noat_ok (c.fact 82 (f := .noat "Order" "_people") rfl), He.noat_ok (c.fact 83 (f := .noat "Order" "_text") rfl)⟩
theorem di_Order (X : K.In h) (G : h.Ns mainGlobals mg) (c : He.SaysD fa fn K) : Di K mg "Order" "Order.__init__" (He.ga K "Order") s_Order__init := by
  obtain ⟨fd, F⟩ := (c.def_ 11 (d := ⟨("Order", some "__init__"), "__init__", "Order.__init__", defArgs s_Order__init, defBody s_Order__init, defScope s_Order__init, [], []⟩) rfl)
  exact ⟨_, fd, He.glo_ok X G (c.fact 22 (f := .glo "Order") rfl), He.mkr_ok (c.fact 79 (f := .mkr "Order") rfl), F⟩
theorem dm_due (X : K.In h) (G : h.Ns mainGlobals mg) (c : He.SaysD fa fn K) : Dm K (He.ga K "Order") "due" "Order.due" s_Order_due := by
  obtain ⟨fd, F⟩ := (c.def_ 12 (d := ⟨("Order", some "due"), "due", "Order.due", defArgs s_Order_due, defBody s_Order_due, defScope s_Order_due, [], []⟩) rfl)
  exact ⟨_, fd, cls_of c, He.meth_ok (c.fact 77 (f := .meth "Order" "due") rfl), F⟩
theorem dm_str (X : K.In h) (G : h.Ns mainGlobals mg) (c : He.SaysD fa fn K) : Dm K (He.ga K "Order") "__str__" "Order.__str__" s_Order__str := by
  obtain ⟨fd, F⟩ := (c.def_ 14 (d := ⟨("Order", some "__str__"), "__str__", "Order.__str__", defArgs s_Order__str, defBody s_Order__str, defScope s_Order__str, [], []⟩) rfl)
  exact ⟨_, fd, cls_of c, He.meth_ok (c.fact 78 (f := .meth "Order" "__str__") rfl), F⟩
theorem facts (X : K.In h) (G : h.Ns mainGlobals mg) (e : ex K = true) (c : He.SaysD fa fn K) : Body P w K mg base 8 "law" ["_law_cells", "_law_k"] s_law (spLaw K) := by
  have gg := g_gcd_of X G e
  have B := bl_of X G c
  have T := ordc_of c
  have c_is_integer := ok_is_integer (P := P) (w := w) (K := K) (mg := mg) (base := base) B (df_is_integer X G c)
  have c_is_integer_within := ok_is_integer_within (P := P) (w := w) (K := K) (mg := mg) (base := base) c_is_integer (df_is_integer_within X G c)
  have c_is_name := ok_is_name (P := P) (w := w) (K := K) (mg := mg) (base := base) B (He.int_ok X G (c.fact 13 (f := .int "_LONGEST_NAME" 8) rfl)) (He.str_ok X G (c.fact 11 (f := .str "_LETTERS" "abcdefghijklmnopqrstuvwxyz") rfl)) (He.str_ok X G (c.fact 12 (f := .str "_LETTERS_AND_DIGITS" "abcdefghijklmnopqrstuvwxyz0123456789") rfl)) (df_is_name X G c)
  have c_is_number := ok_is_number (P := P) (w := w) (K := K) (mg := mg) (base := base) c_is_integer (df_is_number X G c)
  have c_is_tuple_of := ok_is_tuple_of (P := P) (w := w) (K := K) (mg := mg) (base := base) B (df_is_tuple_of X G c)
  have c_are_worths := ok_are_worths (P := P) (w := w) (K := K) (mg := mg) (base := base) B (He.int_ok X G (c.fact 9 (f := .int "MOST_WORTH" 6) rfl)) c_is_integer_within c_is_tuple_of (df_are_worths X G c)
  have c_is_kind := ok_is_kind (P := P) (w := w) (K := K) (mg := mg) (base := base) B (He.int_ok X G (c.fact 8 (f := .int "MOST_COUNT" 3) rfl)) c_is_name c_is_integer_within c_is_tuple_of c_are_worths (df_is_kind X G c)
  have c_names := ok_names (P := P) (w := w) (K := K) (mg := mg) (base := base) (df_names X G c)
  have c_most_people := ok_most_people (P := P) (w := w) (K := K) (mg := mg) (base := base) (He.int_ok X G (c.fact 7 (f := .int "MOST_PEOPLE" 3) rfl)) (df_most_people X G c)
  have c_are_refused := ok_are_refused (P := P) (w := w) (K := K) (mg := mg) (base := base) B c_is_name (df_are_refused X G c)
  have c_is_person := ok_is_person (P := P) (w := w) (K := K) (mg := mg) (base := base) B (He.int_ok X G (c.fact 10 (f := .int "MOST_SHARE" 3) rfl)) c_is_name c_is_integer_within c_is_tuple_of c_are_refused (df_is_person X G c)
  have c_check_measures := ok_check_measures (P := P) (w := w) (K := K) (mg := mg) (base := base) B (He.int_ok X G (c.fact 20 (f := .int "_MOST_MEASURES" 2) rfl)) c_is_name (df_check_measures X G c)
  have c_check_kinds := ok_check_kinds (P := P) (w := w) (K := K) (mg := mg) (base := base) B (He.int_ok X G (c.fact 6 (f := .int "MOST_KINDS" 4) rfl)) c_is_kind c_names (df_check_kinds X G c)
  have c_check_people := ok_check_people (P := P) (w := w) (K := K) (mg := mg) (base := base) B (He.int_ok X G (c.fact 21 (f := .int "_FEWEST_PEOPLE" 2) rfl)) c_is_person c_names (df_check_people X G c)
  have c_text_of := ok_text_of (P := P) (w := w) (K := K) (mg := mg) (base := base) B (df_text_of X G c)
  have c_lowest := ok_lowest (P := P) (w := w) (K := K) (mg := mg) (base := base) gg (df_lowest X G c)
  have c_parts := ok_parts (P := P) (w := w) (K := K) (mg := mg) (base := base) B c_lowest (df_parts X G c)
  have c_box_worth := ok_box_worth (P := P) (w := w) (K := K) (mg := mg) (base := base) B (df_box_worth X G c)
  have m_Order := ok_init (P := P) (w := w) (K := K) (mg := mg) (base := base) B c_check_measures c_check_kinds c_check_people c_names c_most_people c_text_of T (di_Order X G c)
  have c_check_number := ok_check_number (P := P) (w := w) (K := K) (mg := mg) (base := base) c_is_number (df_check_number X G c)
  have d_Order_due := ok_due (P := P) (w := w) (K := K) (mg := mg) (base := base) B c_check_number c_box_worth c_parts T (dm_due X G c)
  have c_law_draw := ok_law_draw (P := P) (w := w) (K := K) (mg := mg) (base := base) B (df_law_draw X G c)
  have c_law_amount := ok_law_amount (P := P) (w := w) (K := K) (mg := mg) (base := base) B c_law_draw (df_law_amount X G c)
  have c_law_common := ok_law_common (P := P) (w := w) (K := K) (mg := mg) (base := base) B (df_law_common X G c)
  have c_law_added := ok_law_added (P := P) (w := w) (K := K) (mg := mg) (base := base) (df_law_added X G c)
  have c_law_same := ok_law_same (P := P) (w := w) (K := K) (mg := mg) (base := base) (df_law_same X G c)
  have c_law_pairs_right := ok_law_pairs_right (P := P) (w := w) (K := K) (mg := mg) (base := base) B c_law_common (df_law_pairs_right X G c)
  have c_law_name := ok_law_name (P := P) (w := w) (K := K) (mg := mg) (base := base) B c_law_draw (df_law_name X G c)
  have c_law_parts := ok_law_parts (P := P) (w := w) (K := K) (mg := mg) (base := base) B c_law_draw c_law_name (df_law_parts X G c)
  have c_law_text := ok_law_text (P := P) (w := w) (K := K) (mg := mg) (base := base) B (df_law_text X G c)
  have d_Order__str := ok_str (P := P) (w := w) (K := K) (mg := mg) (base := base) B T (dm_str X G c)
  have c_law_cell := ok_law_cell (P := P) (w := w) (K := K) (mg := mg) (base := base) B (df_law_cell X G c)
  have c_law_pool := ok_law_pool (P := P) (w := w) (K := K) (mg := mg) (base := base) B c_law_cell (df_law_pool X G c)
  have c_law_place_right := ok_law_place_right (P := P) (w := w) (K := K) (mg := mg) (base := base) B c_law_same c_law_added c_law_pairs_right (df_law_place_right X G c)
  have c_law_right := ok_law_right (P := P) (w := w) (K := K) (mg := mg) (base := base) B T m_Order d_Order_due d_Order__str c_law_parts c_law_amount c_law_place_right c_law_text (df_law_right X G c)
  have c_law := ok_law (P := P) (w := w) (K := K) (mg := mg) (base := base) B c_law_right c_law_pool
  exact c_law
end
end K11
open PySem PySem.W PySem.Calls PyProof.Rows
theorem PySem.Challenge.cw_evenboxes_k11_whole_dues_fit_together_holds : PySem.Challenge.rw_evenboxes_k11_whole_dues_fit_together.Holds := by
  w_on; o_law
  refine HandSHeadRun.head_imp (r := K11.R) (q := K11.qv) (H := K11.hk) (ob := K11.ob) (M := 20000) (loose := K11.loose) (d := HandSHeadRun.topDef K11.R.prog K11.lawAt) (kwd := []) K11.ob_eq K11.run
    (by kernel_rfl) (by kernel_rfl) (by kernel_rfl) (by rfl) (by first | assumption | decide +kernel) (by decide +kernel) ⟨rfl, rfl, rfl, rfl, rfl, by decide +kernel⟩ ?hw ?hc
  case hw => w_witness2
  case hc =>
    refine L2.walk_ofE (l := PySem.Challenge.rw_evenboxes_k11_whole_dues_fit_together) (n := 63) (k := 9) (x := "_law_cells") (CX := L2.CX0) rfl (by decide) (by kernel_rfl) ⟨rfl, by decide, by decide⟩ ?F (fun _ _ _ _ z => z)
    intro w mg fa h Y G hmg0
    obtain ⟨K, KX, c⟩ := Y
    have hmg : mg ("law" : PySem.Str) = some (.ref fa) := by
      have e : (HandSHeadRun.topDef K11.R.prog K11.lawAt).name = ("law" : PySem.Str) := by kernel_rfl
      rw [← e]
      exact hmg0
    have ce : K11.ex K = true := congrArg (fun z : K11.AlZ => z.1) c
    have cc : He.SaysD K11.fa K11.fn K := congrArg (fun z : K11.AlZ => z.2) c
    have hF := fun base => K11.facts (P := (PySem.Challenge.rw_evenboxes_k11_whole_dues_fit_together).prog) (w := w) (base := base) KX G ce cc
    obtain ⟨fd, F⟩ := (cc.def_ 45 (d := ⟨("law", none), "law", "law", L2.defArgs K11.s_law, L2.defBody K11.s_law, L2.defScope K11.s_law, [], []⟩) rfl)
    have hm := He.glo_ok KX G (cc.fact 52 (f := He.Fa.glo "law") rfl)
    have ef := hmg.symm.trans hm
    cases ef
    have hb := L2.FunD.bindsA (ps := ["_law_cells"]) F fun _ _ _ _ _ _ us hl => match us, hl with | [_], _ => rfl
    exact ⟨K, fd, K11.spLaw K, KX, fun s v => hb s [v] rfl, fun H a ns hl _ hS => ⟨a, ns, rfl, hS, hl, fun _ => rfl⟩, fun base _ _ => K11.FnOk.calm (K11.law_fn F (hF base)) fun vs H Q E h => h⟩

