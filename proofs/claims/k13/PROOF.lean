import PyProof.Rows.All
import Wide.All
import OpenK.AllK
import Wide.FinOn
import HandS.ForMost
import HandS.Wide
import HandS.IsInst
import HandS.Defaults
import HandS.Codes
import HandS.Style
import PyProof.ReprRoads
import PyProof.ReprLen
import HandS.Zip
import HandS.NoneIn
import HandS.TupAny
import HandS.Iter
import KE.GoesZip
import KE.GoesMore
import PyProof.SliceList
import PyProof.CallFns
import PySem.Challenge.RW_unlikepairs_k13_longest_waits_and_pairin
set_option Elab.async false
set_option linter.all false
set_option maxRecDepth 100000
set_option maxHeartbeats 4000000
namespace UP
open PySem PySem.Spec PyProof.Rows L2

/-! ### a def that keeps a promise, by its name -/
section
variable (P : Program) (w : World) (K : PySem.W.Frag) (mg : Str → Option Value) (base : Heap)
def Has (k : Nat) (x : Str) (ps : List Str) (sp : Sp) : Prop :=
  ∃ f fd, mg x = some (.ref f) ∧ PySem.W.keepIn K (.ref f) = true ∧ Binds K fd ps [] ∧ FnOk P w K mg base CX0 k f fd ps sp
def Df (x : Str) (st : Stmt) : Prop := ∃ f fd, mg x = some (.ref f) ∧ Fun K x x st f fd
end
theorem Df.of {K : PySem.W.Frag} {mg : Str → Option Value} {x : Str} {st : Stmt} {f : Addr} {fd : FuncData} (g : mg x = some (.ref f)) (F : Fun K x x st f fd) : Df K mg x st := ⟨f, fd, g, F⟩
section
variable {P : Program} {w : World} {K : PySem.W.Frag} {mg : Str → Option Value} {base : Heap}
theorem has_of {x : Str} {st : Stmt} {ps N : List Str} {k : Nat} {sp : Sp} (D : Df K mg x st) (S : FnScope N ps (defScope st))
    (hb : ∀ (kV doc pm : Value) (an : Option Addr) (cdv ct : Value) (us : List Value), us.length = ps.length → bindArgs (PySem.W.fnOf x x (defArgs st) (defBody st) (defScope st) .none kV doc pm an cdv ct) ⟨us, []⟩ = pure (ps.zip us))
    (len : ∀ vs H Q E, sp vs H Q E → vs.length = ps.length)
    (body : ∀ (f : Addr) (cdv : Value) (A : Around) (outer : List Env) (s : Shared) (H : Hp) (vs : List V) (Q : VK) (E : XK), Room k (A.deeper (envOfC x (defScope st) s.heap.objs.size f cdv)) → sp vs H Q E →
      ∃ t, PSs (cxOf CX0 P w K mg base N x (defScope st) f cdv A outer s H E).nox (defBody st) t ∧ t { nx := fun _ H' => Q .non H', rt := Q } (start N vs) H) :
    Has P w K mg base (k + 1) x ps sp := by
  obtain ⟨f, fd, g, F⟩ := D
  exact ⟨f, fd, g, F.kp, F.binds hb, F.ok S len fun cdv A outer s H vs Q E hr h => body f cdv A outer s H vs Q E hr h⟩
theorem Has.weak {x : Str} {ps : List Str} {k : Nat} {sp sp' : Sp} (h : Has P w K mg base k x ps sp) (e : sp = sp') : Has P w K mg base k x ps sp' := e ▸ h
end
section
variable {X : Cx}
theorem pe_callH {k : Nat} {x : Str} {ps : List Str} {sp : Sp} {p pos : Pos} {e : Expr} {es : List Expr} {t : TA} (G : Has X.prog X.w X.K X.mg X.base k x ps sp) (hr : Room k X.A) (hg : Gl X x) (ha : PA X (e :: es) t)
    (hdb : (x == ("__debug__" : Str)) = false := by decide) (he : starEach (e :: es) X.env = (false, eval e X.env) :: starEach es X.env := by rfl) (hpl : (backTo pos (starEach es X.env)).any (·.1) = false := by rfl) :
    PE X (.Call (.Name x p) (e :: es) [] pos) (tCall sp [] E0 t) := by
  obtain ⟨f, fd, g, kp, b, F⟩ := G
  exact pe_call F hr hg g kp b .nil pass0 ha hdb he hpl
theorem pe_glI {x : Str} {i : Int} {pos : Pos} (h : ∃ t, X.mg x = some (.int i t)) (hg : Gl X x) (hd : (x == ("__debug__" : Str)) = false := by decide) : PE X (.Name x pos) (tC (.int i)) := by
  obtain ⟨t, h⟩ := h
  exact pe_glob hg h ⟨t, rfl⟩ hd
end

/-! ### heaps -/
theorem same_upd {H : Hp} {p : Addr} {o : HO} (h : H p = none) : Same H (upd H p o) := fun b x e => by
  rw [upd_ne (ne_of_none e h)]
  exact e
/-- all but the object at sp is as it was -/
def But (sp : Addr) (H H' : Hp) : Prop := ∀ b o, b ≠ sp → H b = some o → H' b = some o
theorem Same.but {sp : Addr} {H H' : Hp} (h : Same H H') : But sp H H' := fun b o _ e => h b o e
theorem But.trans {sp : Addr} {H H1 H2 : Hp} (a : But sp H H1) (b : But sp H1 H2) : But sp H H2 := fun c o n e => b c o n (a c o n e)
theorem But.refl {sp : Addr} {H : Hp} : But sp H H := fun _ _ _ e => e
theorem but_upd {sp : Addr} {H : Hp} {o : HO} : But sp H (upd H sp o) := fun b x n e => by
  rw [upd_ne n]
  exact e
theorem small {n : Nat} (h : n ≤ 1000000) : n < sizeLine := Nat.lt_of_le_of_lt h (by decide)
theorem smallE {n : Nat} (h : n ≤ 1000000) : n ≤ sizeLine := Nat.le_of_lt (small h)

/-! ### runs and states -/
abbrev Run := Str × Int
def RunV (H : Hp) (v : V) (r : Run) : Prop := ∃ t, v = .ref t ∧ H t = some (.tup [.str r.1, .int r.2])
def Runs (H : Hp) (a : Addr) (rs : List Run) : Prop := ∃ xs, H a = some (.lst xs) ∧ Paired (RunV H) xs rs
def StV (H : Hp) (v : V) : Option Run → Prop
  | none => v = .non
  | some r => RunV H v r
theorem RunV.same {H H' : Hp} {v : V} {r : Run} (s : Same H H') (h : RunV H v r) : RunV H' v r := by
  obtain ⟨t, e, h⟩ := h
  exact ⟨t, e, s _ _ h⟩
theorem Paired.len {α β : Type} {F : α → β → Prop} : ∀ {l₁ : List α} {l₂ : List β}, Paired F l₁ l₂ → l₁.length = l₂.length
  | _, _, .nil => rfl
  | _, _, .cons _ t => congrArg Nat.succ (Paired.len t)
theorem Paired.at {α β : Type} {F : α → β → Prop} : ∀ {l₁ : List α} {l₂ : List β} {i : Nat} {x : α}, Paired F l₁ l₂ → l₁[i]? = some x → ∃ y, l₂[i]? = some y ∧ F x y
  | _, _, _, _, .nil, h => by simp at h
  | _, _, 0, _, .cons h _, e => by
    simp only [List.getElem?_cons_zero, Option.some.injEq] at e
    subst e
    exact ⟨_, by simp, h⟩
  | _, _, i + 1, _, .cons _ t, e => by
    simp only [List.getElem?_cons_succ] at e ⊢
    exact Paired.at t e
theorem Paired.at' {α β : Type} {F : α → β → Prop} : ∀ {l₁ : List α} {l₂ : List β} {i : Nat} {y : β}, Paired F l₁ l₂ → l₂[i]? = some y → ∃ x, l₁[i]? = some x ∧ F x y
  | _, _, _, _, .nil, h => by simp at h
  | _, _, 0, _, .cons h _, e => by
    simp only [List.getElem?_cons_zero, Option.some.injEq] at e
    subst e
    exact ⟨_, by simp, h⟩
  | _, _, i + 1, _, .cons _ t, e => by
    simp only [List.getElem?_cons_succ] at e ⊢
    exact Paired.at' t e
theorem Paired.imp {α β : Type} {F G : α → β → Prop} (f : ∀ a b, F a b → G a b) : ∀ {l₁ : List α} {l₂ : List β}, Paired F l₁ l₂ → Paired G l₁ l₂
  | _, _, .nil => .nil
  | _, _, .cons h t => .cons (f _ _ h) (Paired.imp f t)
theorem Paired.app {α β : Type} {F : α → β → Prop} : ∀ {l₁ m₁ : List α} {l₂ m₂ : List β}, Paired F l₁ l₂ → Paired F m₁ m₂ → Paired F (l₁ ++ m₁) (l₂ ++ m₂)
  | _, _, _, _, .nil, h => h
  | _, _, _, _, .cons h t, k => .cons h (Paired.app t k)
theorem Paired.dropp {α β : Type} {F : α → β → Prop} : ∀ {l₁ : List α} {l₂ : List β} (n : Nat), Paired F l₁ l₂ → Paired F (l₁.drop n) (l₂.drop n)
  | _, _, 0, h => h
  | _, _, n + 1, .nil => .nil
  | _, _, n + 1, .cons _ t => by
    simp only [List.drop_succ_cons]
    exact Paired.dropp n t
theorem Paired.takep {α β : Type} {F : α → β → Prop} : ∀ {l₁ : List α} {l₂ : List β} (n : Nat), Paired F l₁ l₂ → Paired F (l₁.take n) (l₂.take n)
  | _, _, 0, h => by simp only [List.take_zero]; exact .nil
  | _, _, n + 1, .nil => .nil
  | _, _, n + 1, .cons h t => by
    simp only [List.take_succ_cons]
    exact .cons h (Paired.takep n t)
theorem Runs.same {H H' : Hp} {a : Addr} {rs : List Run} (s : Same H H') (h : Runs H a rs) : Runs H' a rs := by
  obtain ⟨xs, e, p⟩ := h
  exact ⟨xs, s _ _ e, Paired.imp (fun _ _ => RunV.same s) p⟩
theorem StV.same {H H' : Hp} {v : V} {st : Option Run} (s : Same H H') (h : StV H v st) : StV H' v st := by
  cases st with
  | none => exact h
  | some r => exact RunV.same s h
/-- the spring: a list of three ints -/
def Spr (H : Hp) (sp : Addr) : Prop := ∃ d s c : Int, H sp = some (.lst [.int d, .int s, .int c]) ∧ 0 ≤ d ∧ d.natAbs < 2 ^ 20000 ∧ 0 ≤ s ∧ s < 2305843009213693951
theorem RunV.but {H H' : Hp} {sp : Addr} {v : V} {r : Run} (z : Spr H sp) (s : But sp H H') (h : RunV H v r) : RunV H' v r := by
  obtain ⟨t, e, h⟩ := h
  obtain ⟨_, _, _, hs, _⟩ := z
  exact ⟨t, e, s _ _ (ne_of h hs (by intro q; cases q)) h⟩
theorem Runs.ne {H : Hp} {sp a : Addr} {rs : List Run} (z : Spr H sp) (h : Runs H a rs) : a ≠ sp := by
  obtain ⟨xs, e, p⟩ := h
  obtain ⟨d, s, c, hs, _⟩ := z
  refine ne_of e hs fun q => ?_
  have q := HO.lst.inj q
  subst q
  cases p with
  | cons h _ =>
    obtain ⟨t, e, _⟩ := h
    cases e
theorem Runs.but {H H' : Hp} {sp a : Addr} {rs : List Run} (z : Spr H sp) (s : But sp H H') (h : Runs H a rs) : Runs H' a rs := by
  have n := Runs.ne z h
  obtain ⟨xs, e, p⟩ := h
  exact ⟨xs, s _ _ n e, Paired.imp (fun _ _ => RunV.but z s) p⟩
theorem StV.but {H H' : Hp} {sp : Addr} {v : V} {st : Option Run} (z : Spr H sp) (s : But sp H H') (h : StV H v st) : StV H' v st := by
  cases st with
  | none => exact h
  | some r => exact RunV.but z s h
theorem Spr.same {H H' : Hp} {sp : Addr} (z : Spr H sp) (s : Same H H') : Spr H' sp := by
  obtain ⟨d, e, c, hs, r⟩ := z
  exact ⟨d, e, c, s _ _ hs, r⟩
def KindOk (s : Str) : Prop := 1 ≤ s.length ∧ s.length ≤ 8 ∧ ∀ c ∈ s.cps.toList, 97 ≤ c ∧ c ≤ 122
def RunOk (r : Run) : Prop := KindOk r.1 ∧ 1 ≤ r.2 ∧ r.2 ≤ 1000000000000000000000000000000
def Alt (rs : List Run) : Prop := ∀ (i : Nat) (x y : Run), rs[i]? = some x → rs[i + 1]? = some y → x.1 ≠ y.1
def SeqOk (rs : List Run) : Prop := rs.length ≤ 400 ∧ (∀ r ∈ rs, RunOk r) ∧ Alt rs
end UP

set_option Elab.async false
set_option linter.all false
set_option maxRecDepth 100000
set_option maxHeartbeats 4000000
namespace UP
open PySem PySem.Spec PyProof.Rows L2
/-! ### repr of plain data, where no other repr is under way -/
def rRepr (K : PySem.W.Frag) : List V → Hp → VK → Prop := fun xs H Q => ∃ (a : Addr) (d : PyData), xs = [.ref a] ∧ Dp K H (.ref a) d ∧ d.showable = true ∧ SeqAt.shaped d = true ∧ d.shown.length ≤ sizeLine ∧ Q (.str d.shown) H
theorem call_reprD {X : Cx} (hg : X.A.guards = some []) (hu : X.A.units + 70 < cLine) : CallR X (.builtin "repr") (rRepr X.K) := by
  intro pins s σ H xs us Q I r h
  obtain ⟨a, d, rfl, dp, sh, sp, sz, q⟩ := h
  obtain ⟨u, rfl, ru⟩ := vals1 r
  cases (show u = Value.ref a from ru)
  obtain ⟨as, rd⟩ := Dp.reads I d (.ref a) (.ref a) dp rfl
  have dd := SeqAt.depth_of_shaped sp
  refine repr_of_reads' rd sh (PyData.noDict_hsm (PyData.hasDict_of_canLay d (SeqAt.canLay_of_shaped sp))) hg (by omega) (fun _ _ e => e) (fun h' u tk hk => ?_) sz
  exact ⟨.str d.shown, H, I.kept (t' := tk) hk, ⟨u, rfl⟩, q⟩
/-! ### the law's own call, around it nothing -/
structure FnC (P : Program) (w : World) (K : PySem.W.Frag) (mg : Str → Option Value) (base : Heap) (f : Addr) (fd : FuncData) (ps : List Str) (sp : Sp) : Prop where
  go : ∀ (out : List Env) (s : Shared) (H : Hp) (args : Args) (us : List Value) (vs : List V) (Q : VK) (E : XK), Env0 P w K mg base callerA out s H → BindsTo s fd args (ps.zip us) → Vals vs us → sp vs H Q E →
    codeAny (model P w) callerA (.call (.ref f) args) (CR CX0 out P w H s Q E) s
theorem callerA_room : Room 8 callerA := ⟨rfl, by decide, by decide⟩
section
variable {P : Program} {w : World} {K : PySem.W.Frag} {mg : Str → Option Value} {base : Heap}
theorem fnC_of {x : Str} {st : Stmt} {f : Addr} {fd : FuncData} {ps N : List Str} {sp : Sp} (F : Fun K x x st f fd) (S : FnScope N ps (defScope st)) (len : ∀ vs H Q E, sp vs H Q E → vs.length = ps.length)
    (body : ∀ (cdv : Value) (out : List Env) (s : Shared) (H : Hp) (vs : List V) (Q : VK) (E : XK), Room 7 (callerA.deeper (envOfC x (defScope st) s.heap.objs.size f cdv)) → sp vs H Q E →
      ∃ t, PSs (cxOf CX0 P w K mg base N x (defScope st) f cdv callerA out s H E).nox (defBody st) t ∧ t { nx := fun _ H' => Q .non H', rt := Q } (start N vs) H) : FnC P w K mg base f fd ps sp := by
  obtain ⟨oc, od, kV, doc, pm, an, cdv, ct, osl, rfl, lk, hcd⟩ := F.ex
  refine ⟨fun out s H args us vs Q E e0 hb rv hsp => ?_⟩
  have inS : K.In s.heap := e0.mod.kin.keeps fun b o z => (e0.bs b o z).1
  have noL : s.heap.NoLimit := e0.mod.nolimit.keeps fun b o z => (e0.bs b o z).1
  have kinds : ∀ y ∈ ps.zip us, (defScope st).names.lookup y.1 = some .local ∨ ((defScope st).names.lookup y.1 = some .cell ∧ ((cellsFrom (s.heap.objs.size + 1) (defScope st).names []).lookup y.1).isSome = true) := by
    intro y hy
    rcases S.par y.1 (List.of_mem_zip (a := y.1) (b := y.2) hy).1 with z | z
    · exact Or.inl z
    · exact Or.inr ⟨z, PySem.W.cellsFrom_some _ _ _ (Or.inl z)⟩
  refine codeAny_call_function callerA_room.depth (inS _ _ lk) rfl S.co S.gen rfl (PySem.W.codeRec_of inS hcd) (hb _ _ _ _ ?_)
  refine wpAny_newFunctionEnv_cells S.kind kinds fun env he s1 inC => ?_
  subst he
  refine ⟨noL.keeps inC.toInCall.keep, codeAny_func ?_⟩
  obtain ⟨t, ht0, hq⟩ := body cdv out s H vs Q E (callerA_room.deeper _) hsp
  have ht := PSs.nox ht0
  have I0 : Inv (cxOf CX0 P w K mg base N x (defScope st) f cdv callerA out s H E) [] (start N vs) H s1 := inv_start S rfl e0 (len _ _ _ _ hsp) rv inC
  refine wpAny_mono (ht.run [] s1 (start N vs) H _ I0 hq) (fun fl s2 h2 => ?_) fun _ _ z => z
  cases fl with
  | next =>
    obtain ⟨σ2, H2, J, q2⟩ := h2
    exact ⟨V.non, H2, J.os, J.bare, J.base, J.hok, rfl, q2⟩
  | ret u =>
    obtain ⟨v, σ2, H2, J, rv2, q2⟩ := h2
    exact ⟨v, H2, J.os, J.bare, J.base, J.hok, rv2, q2⟩
  | brk =>
    obtain ⟨_, _, _, z⟩ := h2
    exact z.elim
  | cont =>
    obtain ⟨_, _, _, z⟩ := h2
    exact z.elim
end
/-- the heap that holds the script alone, locked -/
def oneH (a : Addr) (o : Obj) (xs : List V) : Hp := fun b => if b = a then some (.frz o (.lst xs)) else none
theorem run_law {P : Program} {w : World} {K : PySem.W.Frag} {mg mb : Str → Option Value} {fa a : Addr} {fd : FuncData} {x : Str} {sp : Sp} {s : Shared} {vs : List Value} {ns : List Int}
    (kx : K.In s.heap) (gns : s.heap.Ns mainGlobals mg) (bns : s.heap.Ns builtinsNs mb) (bb : ∀ y : Str, y ≠ "__name__" → mb y = bootBuiltins y) (nl : s.heap.NoLimit) (gens : s.gens = #[])
    (ob : s.heap.get? a = some { cls := .type "list", data := .seq vs.toArray }) (hin : IntsAre vs ns) (len : ns.length ≤ sizeLine) (F : ∀ base : Heap, K.In base → base.Ns mainGlobals mg → FnC P w K mg base fa fd [x] sp)
    (bind : ∀ (s : Shared) (u : Value), BindsTo s fd ⟨[u], []⟩ [(x, u)]) (hsp : ∀ H : Hp, SqL K H a (ns.map V.int) → sp [.ref a] H (fun v _ => v = .bl true) fun _ _ _ => False) :
    codeAny (model P w) callerA (.call (.ref fa) ⟨[.ref a], []⟩) (fun r s' => r = .ok (.ret (.bool true)) ∧ OldK s.heap s'.heap ∧ s'.os = s.os ∧ AllBare s'.gens) s := by
  have rel := vals_ints hin
  have step : ∀ H : Hp, (H = (fun _ => none) ∨ (H = oneH a { cls := .type "list", data := .seq vs.toArray } (ns.map V.int) ∧ K.lookup a = none)) → SqL K H a (ns.map V.int) → HOk P w H s.heap →
      codeAny (model P w) callerA (.call (.ref fa) ⟨[.ref a], []⟩) (fun r s' => r = .ok (.ret (.bool true)) ∧ OldK s.heap s'.heap ∧ s'.os = s.os ∧ AllBare s'.gens) s := by
    intro H hH hS hok
    have only : ∀ b u, H b = some u → b = a ∧ u = .frz { cls := .type "list", data := .seq vs.toArray } (.lst (ns.map V.int)) ∧ K.lookup a = none := by
      intro b u e
      rcases hH with z | ⟨z, z2⟩
      · rw [z] at e
        cases e
      · rw [z] at e
        by_cases hb : b = a
        · have e := (if_pos hb).symm.trans e
          cases e
          exact ⟨hb, rfl, z2⟩
        · have e := (if_neg hb).symm.trans e
          cases e
    have free : ∀ {b : Addr} {o : Obj}, s.heap.get? b = some o → (b = a → False) → (hidT s.heap H).get? b = some o := by
      intro b o e n
      refine hidT_get e ?_
      cases q : H b with
      | none => rfl
      | some u => exact (n (only b u q).1).elim
    have nss : ∀ {b : Addr} {m : Str → Option Value}, s.heap.Ns b m → (hidT s.heap H).Ns b m := by
      intro b m ⟨o, es, ep, e, d, r⟩
      refine ⟨o, es, ep, free e fun z => ?_, d, r⟩
      subst z
      rw [ob] at e
      cases e
      cases d
    have kb : K.In (hidT s.heap H) := by
      intro b o e
      refine hidT_get (kx b o e) ?_
      cases q : H b with
      | none => rfl
      | some u =>
        obtain ⟨z1, _, z2⟩ := only b u q
        rw [z1, z2] at e
        cases e
    have md : Mod K mg (hidT s.heap H) := ⟨kb, nss gns, ⟨mb, nss bns, bb⟩, by obtain ⟨mc, h1, h2⟩ := nl; exact ⟨mc, nss h1, h2⟩⟩
    have env : Env0 P w K mg (hidT s.heap H) callerA [] s H := ⟨rfl, md, fun b o e => of_hidT e, Nat.le_of_eq (hidT_size _ _), trivial, (fun b hb => by cases hb), hok, .of_eq gens⟩
    refine codeAny_mono ((F _ kb (nss gns)).go [] s H ⟨[.ref a], []⟩ [.ref a] [.ref a] _ _ env (bind s (.ref a)) (.cons rfl .nil) (hsp H hS)) fun r s' h => ?_
    cases r with
    | error e => exact h.elim
    | ok fl =>
      cases fl with
      | next => exact h.elim
      | brk => exact h.elim
      | cont => exact h.elim
      | ret u =>
        obtain ⟨v, H', o1, o2, un, hok', rv, q⟩ := h
        have q : v = .bl true := q
        subst q
        cases (show u = Value.bool true from rv)
        refine ⟨rfl, OldK.of_keep fun b o e => ?_, o1, o2⟩
        cases q : H b with
        | none => exact un.keep b o e q (fun z => by cases z) (fun z => by cases z)
        | some u =>
          obtain ⟨_, z, _⟩ := only b u q
          subst z
          obtain ⟨e1, _⟩ := hok b _ q
          obtain ⟨e2, _⟩ := hok' b _ (un.frzs b _ _ q)
          rw [e] at e1
          cases e1
          exact e2
  cases hk : K.lookup a with
  | some o =>
    have e := kx a o hk
    rw [ob] at e
    cases e
    refine step (fun _ => none) (.inl rfl) (.inr ⟨_, vs.toArray, _, hk, rfl, rfl, rfl, ?_, by simpa using rel⟩) fun b u z => by cases z
    rw [List.size_toArray, hin.length]
    exact len
  | none =>
    have at_a : oneH a { cls := .type "list", data := .seq vs.toArray } (ns.map V.int) a = some (.frz { cls := .type "list", data := .seq vs.toArray } (.lst (ns.map V.int))) := if_pos rfl
    refine step _ (.inr ⟨rfl, hk⟩) (.inl (.inr ⟨_, at_a⟩)) fun b u z => ?_
    by_cases hb : b = a
    · subst hb
      rw [at_a] at z
      cases z
      exact ⟨ob, by rw [List.length_map]; exact len, vs, _, rel, ob⟩
    · have z := (if_neg hb).symm.trans z
      cases z
theorem walkC {l : PySem.W.OpenLaw} {n : Nat} {q : Program} {loose : List Str} {XP : (Str → Option Value) → Heap → Prop} {YP : World → Heap → Prop} {d : DefRec} {K : Params → PySem.W.Frag} {sp : World → Sp} {x : Str}
    (hn : l.most = some n) (n2 : n ≤ sizeLine) (df : d.params.defaults = []) (hY : ∀ (w : World) (h : Heap), YP w h → (K w.params).In h)
    (F : ∀ (w : World) (mg : Str → Option Value) (fa : Addr) (h : Heap), (K w.params).In h → h.Ns mainGlobals mg → mg d.name = some (.ref fa) →
      ∃ fd : FuncData, (∀ (s : Shared) (u : Value), BindsTo s fd ⟨[u], []⟩ [(x, u)]) ∧ ∀ base : Heap, (K w.params).In base → base.Ns mainGlobals mg → FnC l.prog w (K w.params) mg base fa fd [x] (sp w))
    (hsp : ∀ (w : World) (H : Hp) (a : Addr) (ns : List Int), ns.length ≤ n → SqL (K w.params) H a (ns.map V.int) → sp w [.ref a] H (fun v _ => v = .bl true) fun _ _ _ => False) :
    PySem.W.WalkO q loose XP YP l.row.toRowW d [] (fun f vs => PySem.call f vs) := by
  refine Att.attach_call hn df fun w s₀ s mg mb fa o pm cd doc a vs ns G Y ho hd hcd hmg hobj hints hlen hg => ?_
  have kx := hY w _ Y
  obtain ⟨fd, hb, hF⟩ := F w mg fa _ kx G.T.g hmg
  exact run_law kx G.T.g G.T.b G.T.builtins G.T.nolimit hg hobj hints (Nat.le_trans hlen n2) hF hb fun H hS => hsp w H a ns hlen hS
end UP

set_option Elab.async false
set_option linter.all false
set_option maxRecDepth 100000
set_option maxHeartbeats 4000000
namespace UP
open PySem PySem.Spec PyProof.Rows L2
/-! ### lists or tuples -/
def Sq2 (H : Hp) (a : Addr) (xs : List V) : Prop := H a = some (.lst xs) ∨ H a = some (.tup xs)
theorem Sq2.same {H H' : Hp} {a : Addr} {xs : List V} (s : Same H H') (h : Sq2 H a xs) : Sq2 H' a xs := h.elim (fun z => .inl (s _ _ z)) (fun z => .inr (s _ _ z))
/-- a walk over the items xs, from the heap H on -/
structure Wk (J : It) (H : Hp) (xs : List V) : Prop where
  go : ∀ i H', Same H H' → i < xs.length → J.go i H'
  stop : ∀ H', Same H H' → J.stop xs.length H'
  yld : ∀ i x H' H'', Same H H' → J.yld i H' x H'' → H'' = H' ∧ xs[i]? = some x
theorem wk_list {K : PySem.W.Frag} {H : Hp} {a : Addr} {xs : List V} (h : H a = some (.lst xs)) : Wk (Itl K a) H xs :=
  ⟨fun i H' s hi => ⟨xs, xs[i], .of (s _ _ h), List.getElem?_eq_getElem hi⟩, fun H' s => ⟨xs, .of (s _ _ h), Nat.le_refl _⟩, fun i x H' H'' s y => ⟨y.1, y.2 xs (.of (s _ _ h))⟩⟩
theorem wk_tup {K : PySem.W.Frag} {H : Hp} {a : Addr} {xs : List V} (h : H a = some (.tup xs)) : Wk (Itt K a) H xs :=
  ⟨fun i H' s hi => ⟨xs, xs[i], .of (s _ _ h), List.getElem?_eq_getElem hi⟩, fun H' s => ⟨xs, .of (s _ _ h), Nat.le_refl _⟩, fun i x H' H'' s y => ⟨y.1, y.2 xs (.of (s _ _ h))⟩⟩
def iSeqV (i : Nat) : TI := fun σ H R => ∃ a xs, σ[i]? = some (some (.ref a)) ∧ Sq2 H a xs ∧ ∀ J, Wk J H xs → R J H
section
variable {X : Cx}
theorem pi_seqV (i : Nat) {x : Str} {pos : Pos} {tg : Expr} (hN : X.N[i]? = some x := by rfl) (hv : Vis X.env.scope x := by first | exact Or.inl rfl | exact Or.inr (Or.inl rfl) | exact Or.inr (Or.inr rfl)) (hd : (x == ("__debug__" : Str)) = false := by decide)
    (hc : (x == ("__classdict__" : Str)) = false := by decide) : PI X tg (.Name x pos) (iSeqV i) := by
  refine ⟨fun pins s σ H R I hw => ?_⟩
  obtain ⟨a, xs, e, h, k⟩ := hw
  rcases h with h | h
  · exact (pi_list (pe_var hN hv hd hc)).run pins s σ H R I ⟨_, e, a, rfl, ⟨xs, .of h⟩, k _ (wk_list h)⟩
  · exact (pi_tup (pe_var hN hv hd hc)).run pins s σ H R I ⟨_, e, a, rfl, ⟨xs, .of h⟩, k _ (wk_tup h)⟩
def gAny (n : Nat) (t : TGs) : TG := fun v σ H Q => ∃ a xs, v = .ref a ∧ Sq2 H a xs ∧ xs.length = n ∧ t xs σ H Q
theorem pg_any {es : List Expr} {k n : Nat} {t : TGs} {pos : Pos} (hc : X.calm = true) (h : PGs X es t) (hn : (assignEach es X.env).length = n := by rfl) (hst : (assignEach es X.env).findIdx? (fun z => z.1) = none := by rfl) : PG X (.Tuple es k pos) (gAny n t) := by
  refine ⟨fun pins s σ H v u Q I r hw => ?_⟩
  obtain ⟨a, xs, e, hx, hl, hw⟩ := hw
  rcases hx with z | z
  · exact (pg_unl hc h hn hst).run pins s σ H v u Q I r ⟨a, xs, e, .of z, hl, hw⟩
  · exact (pg_tup hc h hn hst).run pins s σ H v u Q I r ⟨a, xs, e, .of z, hl, hw⟩
/-- zip(x, x[1:]) -/
structure WkZ (J : It) (H : Hp) (xs : List V) : Prop where
  go : ∀ i H', Same H H' → i + 1 < xs.length → J.go i H'
  stop : ∀ H', Same H H' → J.stop (xs.length - 1) H'
  yld : ∀ i x H' H'', Same H H' → J.yld i H' x H'' → ∃ T x1 x2, x = .ref T ∧ H' T = none ∧ H'' = upd H' T (.tup [x1, x2]) ∧ xs[i]? = some x1 ∧ (i + 1 < xs.length → xs[i + 1]? = some x2)
def iZip1 (i : Nat) : TI := fun σ H R => ∃ a xs, σ[i]? = some (some (.ref a)) ∧ Sq2 H a xs ∧ ∀ J H', Same H H' → WkZ J H' xs → R J H'
theorem cutt_one (xs : List V) : cutV xs (some 1) none = xs.drop 1 := by
  have e : HT.sIx xs.length 0 (some 1) = min 1 xs.length := HT.sIx_nat xs.length 0 1
  unfold cutV
  rw [e, HT.sIx_none]
  cases xs with
  | nil => rfl
  | cons x r =>
    have e1 : min 1 (x :: r).length = 1 := by simp only [List.length_cons]; omega
    rw [e1]
    simp
theorem pi_zip1 {i : Nat} {tg it : Expr} {tl th : TO} (h : PI X tg it (RZ.iZipA X.K (tCons (tVar i) (tCons (tSl (fun x lo hi H Q => rSlL X.K x lo hi H Q ∨ rSlA X.K x lo hi H Q) (tVar i) tl th) tNil))))
    (h1 : ∀ (σ : L2.St) (H : Hp) (Q : Option Int → Hp → Prop), Q (some 1) H → tl σ H Q) (h2 : ∀ (σ : L2.St) (H : Hp) (Q : Option Int → Hp → Prop), Q none H → th σ H Q) : PI X tg it (iZip1 i) := by
  refine ⟨fun pins s σ H R I hw => h.run pins s σ H R I ?_⟩
  obtain ⟨a, xs, e, hx, k⟩ := hw
  refine ⟨_, e, _, e, h1 σ H _ (h2 σ H _ ?_)⟩
  have gn : ∀ j : Nat, (xs.drop 1)[j]? = xs[j + 1]? := fun j => by rw [List.getElem?_drop, Nat.add_comm 1 j]
  rcases hx with hx | hx
  · refine .inl ⟨a, xs, rfl, .of hx, fun c nc => ?_⟩
    have sc : Same H (upd H c (.lst (cutV xs (some 1) none))) := fun b o z => by rw [upd_ne (ne_of_none z nc)]; exact z
    have hc : (upd H c (.lst (cutV xs (some 1) none))) c = some (.lst (xs.drop 1)) := by rw [upd_same, cutt_one]
    refine ⟨a, c, xs, xs.drop 1, rfl, .inl ⟨.of (sc _ _ hx), .of hc, k _ _ sc ⟨fun j H' sj hj => ?_, fun H' sj => ?_, fun j x H' H'' sj y => ?_⟩⟩⟩
    · exact ⟨xs, xs.drop 1, xs[j], xs[j + 1], .of (sj _ _ (sc _ _ hx)), .of (sj _ _ hc), List.getElem?_eq_getElem (by omega), by rw [gn]; exact List.getElem?_eq_getElem hj⟩
    · exact ⟨xs, xs.drop 1, .of (sj _ _ (sc _ _ hx)), .of (sj _ _ hc), .inr (by rw [List.length_drop]; exact Nat.le_refl _)⟩
    · obtain ⟨T, x1, x2, e1, e2, e3, f1, f2⟩ := y
      exact ⟨T, x1, x2, e1, e2, e3, f1 xs (.of (sj _ _ (sc _ _ hx))), fun _ => by rw [← gn]; exact f2 _ (.of (sj _ _ hc))⟩
  · refine .inr ⟨a, xs, rfl, .of hx, fun z => ?_, fun z c nc => ?_⟩
    · have lz : xs.length = 0 := by
        have z1 := z.1
        rw [show HT.sIx xs.length 0 (some 1) = min 1 xs.length from HT.sIx_nat xs.length 0 1] at z1
        omega
      refine ⟨a, a, xs, xs, rfl, .inr ⟨.of hx, .of hx, k _ _ (Same.refl _) ⟨fun j H' sj hj => by omega, fun H' sj => ⟨xs, xs, .of (sj _ _ hx), .of (sj _ _ hx), .inl (by omega)⟩, fun j x H' H'' sj y => ?_⟩⟩⟩
      obtain ⟨T, x1, x2, e1, e2, e3, f1, f2⟩ := y
      exact ⟨T, x1, x2, e1, e2, e3, f1 xs (.of (sj _ _ hx)), fun hj => by omega⟩
    · have sc : Same H (upd H c (.tup (cutV xs (some 1) none))) := fun b o z => by rw [upd_ne (ne_of_none z nc)]; exact z
      have hc : (upd H c (.tup (cutV xs (some 1) none))) c = some (.tup (xs.drop 1)) := by rw [upd_same, cutt_one]
      refine ⟨a, c, xs, xs.drop 1, rfl, .inr ⟨.of (sc _ _ hx), .of hc, k _ _ sc ⟨fun j H' sj hj => ?_, fun H' sj => ?_, fun j x H' H'' sj y => ?_⟩⟩⟩
      · exact ⟨xs, xs.drop 1, xs[j], xs[j + 1], .of (sj _ _ (sc _ _ hx)), .of (sj _ _ hc), List.getElem?_eq_getElem (by omega), by rw [gn]; exact List.getElem?_eq_getElem hj⟩
      · exact ⟨xs, xs.drop 1, .of (sj _ _ (sc _ _ hx)), .of (sj _ _ hc), .inr (by rw [List.length_drop]; exact Nat.le_refl _)⟩
      · obtain ⟨T, x1, x2, e1, e2, e3, f1, f2⟩ := y
        exact ⟨T, x1, x2, e1, e2, e3, f1 xs (.of (sj _ _ (sc _ _ hx))), fun _ => by rw [← gn]; exact f2 _ (.of (sj _ _ hc))⟩
end
/-! ### runs and states, dressed -/
def RunG (H : Hp) (v : V) (r : Run) : Prop := ∃ t, v = .ref t ∧ Sq2 H t [.str r.1, .int r.2]
def RunsG (H : Hp) (v : V) (rs : List Run) : Prop := ∃ a xs, v = .ref a ∧ Sq2 H a xs ∧ Paired (RunG H) xs rs
def StG (H : Hp) (v : V) : Option Run → Prop
  | none => v = .non
  | some r => RunG H v r
theorem RunG.same {H H' : Hp} {v : V} {r : Run} (s : Same H H') (h : RunG H v r) : RunG H' v r := by
  obtain ⟨t, e, h⟩ := h
  exact ⟨t, e, h.same s⟩
theorem RunsG.same {H H' : Hp} {v : V} {rs : List Run} (s : Same H H') (h : RunsG H v rs) : RunsG H' v rs := by
  obtain ⟨a, xs, e, hx, p⟩ := h
  exact ⟨a, xs, e, hx.same s, Paired.imp (fun _ _ => RunG.same s) p⟩
theorem StG.same {H H' : Hp} {v : V} {st : Option Run} (s : Same H H') (h : StG H v st) : StG H' v st := by
  cases st with
  | none => exact h
  | some r => exact RunG.same s h
theorem RunV.dress {H : Hp} {v : V} {r : Run} (h : RunV H v r) : RunG H v r := by
  obtain ⟨t, e, h⟩ := h
  exact ⟨t, e, .inr h⟩
theorem Runs.dress {H : Hp} {a : Addr} {rs : List Run} (h : Runs H a rs) : RunsG H (.ref a) rs := by
  obtain ⟨xs, hx, p⟩ := h
  exact ⟨a, xs, rfl, .inl hx, Paired.imp (fun _ _ => RunV.dress) p⟩
theorem StV.dress {H : Hp} {v : V} {st : Option Run} (h : StV H v st) : StG H v st := by
  cases st with
  | none => exact h
  | some r => exact RunV.dress h
theorem Sq2.but {H H' : Hp} {sp a : Addr} {xs : List V} (z : Spr H sp) (s : But sp H H') (h : Sq2 H a xs) (n : ∀ d e f, xs ≠ [.int d, .int e, .int f]) : Sq2 H' a xs := by
  obtain ⟨d, e, f, hs, _⟩ := z
  rcases h with h | h
  · exact .inl (s _ _ (ne_of h hs fun q => n d e f (HO.lst.inj q)) h)
  · exact .inr (s _ _ (ne_of h hs fun q => by cases q) h)
theorem RunG.but {H H' : Hp} {sp : Addr} {v : V} {r : Run} (z : Spr H sp) (s : But sp H H') (h : RunG H v r) : RunG H' v r := by
  obtain ⟨t, e, h⟩ := h
  exact ⟨t, e, h.but z s fun _ _ _ q => by cases q⟩
theorem RunsG.but {H H' : Hp} {sp : Addr} {v : V} {rs : List Run} (z : Spr H sp) (s : But sp H H') (h : RunsG H v rs) : RunsG H' v rs := by
  obtain ⟨a, xs, e, hx, p⟩ := h
  refine ⟨a, xs, e, hx.but z s fun d _ _ q => ?_, Paired.imp (fun _ _ => RunG.but z s) p⟩
  subst q
  cases p with
  | cons h _ =>
    obtain ⟨_, e, _⟩ := h
    cases e
theorem StG.but {H H' : Hp} {sp : Addr} {v : V} {st : Option Run} (z : Spr H sp) (s : But sp H H') (h : StG H v st) : StG H' v st := by
  cases st with
  | none => exact h
  | some r => exact RunG.but z s h
end UP

set_option Elab.async false
set_option linter.all false
set_option maxRecDepth 100000
set_option maxHeartbeats 4000000
namespace UP
open PySem PySem.Spec PyProof.Rows L2
def topS (i : Nat) : Stmt := PySem.Challenge.pw_unlikepairs_k13_longest_waits_and_pairin.main.body.getD i (.Pass ⟨0, 0, 0, 0⟩)
structure Tx (mg : Str → Option Value) : Prop where
  n_isinstance : mg "isinstance" = none
  n_int : mg "int" = none
  n_bool : mg "bool" = none
  n_str : mg "str" = none
  n_list : mg "list" = none
  n_tuple : mg "tuple" = none
  n_len : mg "len" = none
  n_all : mg "all" = none
  n_zip : mg "zip" = none
  n_sum : mg "sum" = none
  n_min : mg "min" = none
  n_max : mg "max" = none
  n_abs : mg "abs" = none
  n_range : mg "range" = none
  n_repr : mg "repr" = none
  n_enumerate : mg "enumerate" = none
  n_any : mg "any" = none
  n_dict : mg "dict" = none
  n_sorted : mg "sorted" = none
  n_set : mg "set" = none
  n_reversed : mg "reversed" = none
  c_MAX_LETTERS : ∃ t, mg "MAX_LETTERS" = some (.int 8 t)
  c_MAX_RUNS : ∃ t, mg "MAX_RUNS" = some (.int 400 t)
  c_MAX_COUNT : ∃ t, mg "MAX_COUNT" = some (.int 1000000000000000000000000000000 t)
  c_MAX_PAIRS : ∃ t, mg "MAX_PAIRS" = some (.int 400 t)
section
variable {P : Program} {w : World} {K : PySem.W.Frag} {mg : Str → Option Value} {base : Heap}
/-! is_whole: slots 0:value -/
abbrev s_is_whole : Stmt := topS 7
theorem sc_is_whole : FnScope ["value"] ["value"] (defScope s_is_whole) := ⟨rfl, rfl, rfl, by decide +kernel, rfl, by decide +kernel, by decide +kernel⟩
def sp_is_whole : Sp := fun vs H Q _ => ∃ n : Int, vs = [.int n] ∧ Q (.bl true) H
theorem ok_is_whole (D : Df K mg "is_whole" s_is_whole) (T : Tx mg) : Has P w K mg base 1 "is_whole" ["value"] sp_is_whole := by
  refine has_of D sc_is_whole (fun _ _ _ _ _ _ us hl => match us, hl with | [_], _ => rfl) (fun vs H Q E h => ?_) (fun f cdv A outer s H vs Q E hr h => ?_)
  · obtain ⟨n, rfl, _⟩ := h
    rfl
  · obtain ⟨n, rfl, q⟩ := h
    refine ⟨_, (pss_one (ps_ret (pe_and (pe_callB call_isi (by rfl) T.n_isinstance (by decide +kernel) (pa_cons (pv 0) (pa_cons (pe_bltn (v := .ty "int") (by rfl) T.n_int (by decide +kernel) rfl) pa_nil))) (pe_one (pe_not (pe_callB call_isi (by rfl) T.n_isinstance (by decide +kernel) (pa_cons (pv 0) (pa_cons (pe_bltn (v := .ty "bool") (by rfl) T.n_bool (by decide +kernel) rfl) pa_nil)))))))), ?_⟩
    exact ⟨_, rfl, _, _, _, _, true, rfl, .ty "int", .base (.int n), kit_ty (by decide +kernel), true, rfl, iteT ⟨_, rfl, _, _, _, _, false, rfl, .ty "bool", .base (.int n), kit_ty (by decide +kernel), false, rfl, q⟩⟩
/-! is_within: slots 0:value 1:low 2:high -/
abbrev s_is_within : Stmt := topS 8
theorem sc_is_within : FnScope ["value", "low", "high"] ["value", "low", "high"] (defScope s_is_within) := ⟨rfl, rfl, rfl, by decide +kernel, rfl, by decide +kernel, by decide +kernel⟩
def sp_is_within : Sp := fun vs H Q _ => ∃ n lo hi : Int, vs = [.int n, .int lo, .int hi] ∧ Q (.bl (decide (lo ≤ n ∧ n ≤ hi))) H
theorem ok_is_within (D : Df K mg "is_within" s_is_within) (G_is_whole : Has P w K mg base 1 "is_whole" ["value"] sp_is_whole) : Has P w K mg base 2 "is_within" ["value", "low", "high"] sp_is_within := by
  refine has_of D sc_is_within (fun _ _ _ _ _ _ us hl => match us, hl with | [_, _, _], _ => rfl) (fun vs H Q E h => ?_) (fun f cdv A outer s H vs Q E hr h => ?_)
  · obtain ⟨n, lo, hi, rfl, _⟩ := h
    rfl
  · obtain ⟨n, lo, hi, rfl, q⟩ := h
    refine ⟨_, (pss_one (ps_ret (pe_and (pe_callH G_is_whole (hr.mono (by omega)) (by rfl) (pa_cons (pv 0) pa_nil)) (pe_one (pe_chain op_le op_le (pv 1) (pv 0) (pv 2)))))), ?_⟩
    refine ⟨_, rfl, n, rfl, true, rfl, iteT ⟨_, rfl, _, rfl, _, _, rfl, rfl, _, rfl, ite2 (fun e => ?_) (fun e => ?_)⟩⟩
    · have e := of_decide_eq_true e
      refine ⟨_, rfl, _, _, rfl, rfl, ?_⟩
      show Q (.bl (decide (n ≤ hi))) H
      rw [show decide (n ≤ hi) = decide (lo ≤ n ∧ n ≤ hi) by simp [e]]
      exact q
    · have e : ¬ lo ≤ n := fun z => e (decide_eq_true z)
      show Q (.bl false) H
      rw [show false = decide (lo ≤ n ∧ n ≤ hi) by simp [e]]
      exact q
theorem kit_lst {K : PySem.W.Frag} : PySem.W.kitAny K (.type "list") [.type "list", .type "tuple"] = some true := kitAny_cons (b := true) (kit_ty (by decide +kernel)) (fun z => nomatch z) (fun _ => rfl)
theorem kit_tup {K : PySem.W.Frag} : PySem.W.kitAny K (.type "tuple") [.type "list", .type "tuple"] = some true := kitAny_cons (b := false) (kit_ty (by decide +kernel)) (fun _ => kitAny_cons (b := true) (kit_ty (by decide +kernel)) (fun z => nomatch z) (fun _ => rfl)) (fun z => nomatch z)
/-! is_listed: slots 0:value 1:most -/
abbrev s_is_listed : Stmt := topS 9
theorem sc_is_listed : FnScope ["value", "most"] ["value", "most"] (defScope s_is_listed) := ⟨rfl, rfl, rfl, by decide +kernel, rfl, by decide +kernel, by decide +kernel⟩
def sp_is_listed : Sp := fun vs H Q _ => ∃ (a : Addr) (xs : List V) (m : Int), vs = [.ref a, .int m] ∧ Sq2 H a xs ∧ ∀ H', Same H H' → Q (.bl (decide ((xs.length : Int) ≤ m))) H'
theorem ok_is_listed (D : Df K mg "is_listed" s_is_listed) (T : Tx mg) : Has P w K mg base 1 "is_listed" ["value", "most"] sp_is_listed := by
  refine has_of D sc_is_listed (fun _ _ _ _ _ _ us hl => match us, hl with | [_, _], _ => rfl) (fun vs H Q E h => ?_) (fun f cdv A outer s H vs Q E hr h => ?_)
  · obtain ⟨a, xs, m, rfl, _⟩ := h
    rfl
  · obtain ⟨a, xs, m, rfl, hx, q⟩ := h
    refine ⟨_, (pss_one (ps_ret (pe_and (pe_callB call_isiT (by rfl) T.n_isinstance (by decide +kernel) (pa_cons (pv 0) (pa_cons (pe_tup (pa_cons (pe_bltn (v := .ty "list") (by rfl) T.n_list (by decide +kernel) rfl) (pa_cons (pe_bltn (v := .ty "tuple") (by rfl) T.n_tuple (by decide +kernel) rfl) pa_nil))) pa_nil))) (pe_one (pe_cmpR op_le (pe_callB call_len_seq (by rfl) T.n_len (by decide +kernel) (pa_cons (pv 0) pa_nil)) (pv 1) (nomark _)))))), ?_⟩
    refine ⟨_, rfl, (by show 2 ≤ sizeLine; decide), fun t nt => ?_⟩
    rcases hx with hx | hx
    · refine ⟨_, t, _, _, _, true, rfl, upd_same, .cons (.ty "list") (.cons (.ty "tuple") .nil), .base (.lst (same_upd nt _ _ hx)), kit_lst, true, rfl, iteT ?_⟩
      exact ⟨_, rfl, _, _, rfl, .inl (.of (same_upd nt _ _ hx)), _, rfl, _, _, rfl, rfl, q _ (same_upd nt)⟩
    · refine ⟨_, t, _, _, _, true, rfl, upd_same, .cons (.ty "list") (.cons (.ty "tuple") .nil), .base (.tup (same_upd nt _ _ hx)), kit_tup, true, rfl, iteT ?_⟩
      exact ⟨_, rfl, _, _, rfl, .inr (.of (same_upd nt _ _ hx)), _, rfl, _, _, rfl, rfl, q _ (same_upd nt)⟩
/-! is_couple: slots 0:value -/
abbrev s_is_couple : Stmt := topS 10
theorem sc_is_couple : FnScope ["value"] ["value"] (defScope s_is_couple) := ⟨rfl, rfl, rfl, by decide +kernel, rfl, by decide +kernel, by decide +kernel⟩
def sp_is_couple : Sp := fun vs H Q _ => ∃ (a : Addr) (xs : List V), vs = [.ref a] ∧ Sq2 H a xs ∧ xs.length = 2 ∧ ∀ H', Same H H' → Q (.bl true) H'
theorem ok_is_couple (D : Df K mg "is_couple" s_is_couple) (T : Tx mg) : Has P w K mg base 1 "is_couple" ["value"] sp_is_couple := by
  refine has_of D sc_is_couple (fun _ _ _ _ _ _ us hl => match us, hl with | [_], _ => rfl) (fun vs H Q E h => ?_) (fun f cdv A outer s H vs Q E hr h => ?_)
  · obtain ⟨a, xs, rfl, _⟩ := h
    rfl
  · obtain ⟨a, xs, rfl, hx, hl, q⟩ := h
    refine ⟨_, (pss_one (ps_ret (pe_and (pe_callB call_isiT (by rfl) T.n_isinstance (by decide +kernel) (pa_cons (pv 0) (pa_cons (pe_tup (pa_cons (pe_bltn (v := .ty "list") (by rfl) T.n_list (by decide +kernel) rfl) (pa_cons (pe_bltn (v := .ty "tuple") (by rfl) T.n_tuple (by decide +kernel) rfl) pa_nil))) pa_nil))) (pe_one (pe_cmpR op_eq (pe_callB call_len_seq (by rfl) T.n_len (by decide +kernel) (pa_cons (pv 0) pa_nil)) pe_int (nomark _)))))), ?_⟩
    refine ⟨_, rfl, (by show 2 ≤ sizeLine; decide), fun t nt => ?_⟩
    rcases hx with hx | hx
    · refine ⟨_, t, _, _, _, true, rfl, upd_same, .cons (.ty "list") (.cons (.ty "tuple") .nil), .base (.lst (same_upd nt _ _ hx)), kit_lst, true, rfl, iteT ⟨_, rfl, _, _, rfl, .inl (.of (same_upd nt _ _ hx)), rfl, ?_⟩⟩
      rw [hl]
      exact q _ (same_upd nt)
    · refine ⟨_, t, _, _, _, true, rfl, upd_same, .cons (.ty "list") (.cons (.ty "tuple") .nil), .base (.tup (same_upd nt _ _ hx)), kit_tup, true, rfl, iteT ⟨_, rfl, _, _, rfl, .inr (.of (same_upd nt _ _ hx)), rfl, ?_⟩⟩
      rw [hl]
      exact q _ (same_upd nt)
end
end UP

set_option Elab.async false
set_option linter.all false
set_option maxRecDepth 100000
set_option maxHeartbeats 4000000
namespace UP
open PySem PySem.Spec PyProof.Rows L2
theorem iteP {b : Bool} {A B : Prop} (h : b = true) (x : A) : if b = true then A else B := by
  rw [if_pos h]
  exact x
theorem iteN {b : Bool} {A B : Prop} (h : b = false) (x : B) : if b = true then A else B := by
  rw [if_neg (by rw [h]; decide)]
  exact x
theorem yesT {σ : L2.St} {H : Hp} {A B : Hp → Prop} (h : A H) : tYes σ H (fun b H3 => if b = true then A H3 else B H3) := by
  show (if true = true then A H else B H)
  exact iteT h
theorem lc_gen {J : It} {n : Nat} {g : TG} {tt : TT} {te : TE} {vs : List Nat} {σ : L2.St} {H1 : Hp} {D : Addr} {Qd : Hp → Prop} (Pv : Nat → Hp → Prop) (h0 : Pv 0 (upd H1 D (.lst [])))
    (hg : ∀ i H, i < n → Pv i H → J.go i H) (hst : ∀ H, Pv n H → J.stop n H)
    (hs : ∀ i x H H', i < n → Pv i H → J.yld i H x H' → g x (wipe σ vs) H' fun σ2 H2 => wipe σ2 vs = wipe σ vs ∧ tt σ2 H2 fun b H3 =>
      if b = true then te σ2 H3 fun y H4 => ∃ acc, H4 D = some (.lst acc) ∧ acc.length < sizeLine ∧ Pv (i + 1) (upd H4 D (.lst (acc ++ [y]))) else Pv (i + 1) H3) (hd : ∀ H, Pv n H → Qd H) :
    ∃ W : Nat → Nat → Hp → Prop, (∃ m, W 0 m (upd H1 D (.lst []))) ∧ ∀ i m H, W i m H →
      (J.stop i H ∧ Qd H) ∨ (J.go i H ∧ ∃ Nx : Hp → Prop, (∀ H', Nx H' → ∃ m', m' < m ∧ W (i + 1) m' H') ∧ ∀ x H', J.yld i H x H' → g x (wipe σ vs) H' fun σ2 H2 => wipe σ2 vs = wipe σ vs ∧ tt σ2 H2 fun b H3 =>
        if b = true then te σ2 H3 fun y H4 => ∃ acc, H4 D = some (.lst acc) ∧ acc.length < sizeLine ∧ Nx (upd H4 D (.lst (acc ++ [y]))) else Nx H3) := by
  refine ⟨fun i m H => m = n - i ∧ i ≤ n ∧ Pv i H, ⟨n, by simp, Nat.zero_le _, h0⟩, ?_⟩
  rintro i m H ⟨rfl, hi, p⟩
  by_cases hlt : i < n
  · exact .inr ⟨hg i H hlt p, Pv (i + 1), fun H' p' => ⟨n - (i + 1), by omega, rfl, hlt, p'⟩, fun x H' y => hs i x H H' hlt p y⟩
  · have e : i = n := by omega
    subst e
    exact .inl ⟨hst H p, hd H p⟩
section
variable {X : Cx} {K : PySem.W.Frag}
theorem ix_tupK (h : X.K = K) : IxR X (rIxT K) := h ▸ ix_tup
theorem ix_listK (h : X.K = K) : IxR X (rIxL K) := h ▸ ix_list
theorem pg_tupK {es : List Expr} {k : Nat} {t : TGs} {n : Nat} {pos : Pos} (h : X.K = K) (hc : X.calm = true) (hp : PGs X es t)
    (hn : (assignEach es X.env).length = n := by rfl) (hst : (assignEach es X.env).findIdx? (fun z => z.1) = none := by rfl) : PG X (.Tuple es k pos) (gTup K n t) := by
  subst h
  exact pg_tup hc hp hn hst
theorem call_len_seqK (h : X.K = K) : CallR X (.builtin "len") (fun xs H Q => ∃ p ys, xs = [.ref p] ∧ (SqL K H p ys ∨ SqT K H p ys) ∧ Q (.int ys.length) H) := by
  subst h
  exact call_len_seq
end
theorem ix_seqK {X : Cx} {K : PySem.W.Frag} (h : X.K = K) : IxR X (rIx K) := h ▸ ix_seq
/-! ### lists that grow -/
theorem same_grow {H H4 : Hp} {D : Addr} {o : HO} (n : H D = none) (s : Same H H4) : Same H (upd H4 D o) := fun b x e => by
  rw [upd_ne (ne_of_none e n)]
  exact s b x e
theorem RunV.grow {H : Hp} {D : Addr} {acc acc' : List V} {v : V} {r : Run} (hD : H D = some (.lst acc)) (h : RunV H v r) : RunV (upd H D (.lst acc')) v r := by
  obtain ⟨t, e, h⟩ := h
  refine ⟨t, e, ?_⟩
  rw [upd_ne (ne_of h hD (by intro q; cases q))]
  exact h
theorem prs_grow {H : Hp} {D : Addr} {acc acc' : List V} {xs : List V} {rs : List Run} (hD : H D = some (.lst acc)) (h : Paired (RunV H) xs rs) : Paired (RunV (upd H D (.lst acc'))) xs rs := Paired.imp (fun _ _ => RunV.grow hD) h
theorem prs_same {H H' : Hp} {xs : List V} {rs : List Run} (s : Same H H') (h : Paired (RunV H) xs rs) : Paired (RunV H') xs rs := Paired.imp (fun _ _ => RunV.same s) h
theorem take_snoc {α : Type} {l : List α} {i : Nat} {x : α} (h : l[i]? = some x) : l.take (i + 1) = l.take i ++ [x] := by
  rw [List.take_add_one, h]
  rfl
theorem lc_wk {J : It} {H0 H1 : Hp} {xs : List V} {g : TG} {tt : TT} {te : TE} {vs : List Nat} {σ : L2.St} {D : Addr} {Qd : Hp → Prop} (wk : Wk J H0 xs) (Pv : Nat → Hp → Prop) (hsm : ∀ i H, Pv i H → Same H0 H) (h0 : Pv 0 (upd H1 D (.lst [])))
    (hs : ∀ i x H, xs[i]? = some x → Pv i H → g x (wipe σ vs) H fun σ2 H2 => wipe σ2 vs = wipe σ vs ∧ tt σ2 H2 fun b H3 =>
      if b = true then te σ2 H3 fun y H4 => ∃ acc, H4 D = some (.lst acc) ∧ acc.length < sizeLine ∧ Pv (i + 1) (upd H4 D (.lst (acc ++ [y]))) else Pv (i + 1) H3) (hd : ∀ H, Pv xs.length H → Qd H) :
    ∃ W : Nat → Nat → Hp → Prop, (∃ m, W 0 m (upd H1 D (.lst []))) ∧ ∀ i m H, W i m H →
      (J.stop i H ∧ Qd H) ∨ (J.go i H ∧ ∃ Nx : Hp → Prop, (∀ H', Nx H' → ∃ m', m' < m ∧ W (i + 1) m' H') ∧ ∀ x H', J.yld i H x H' → g x (wipe σ vs) H' fun σ2 H2 => wipe σ2 vs = wipe σ vs ∧ tt σ2 H2 fun b H3 =>
        if b = true then te σ2 H3 fun y H4 => ∃ acc, H4 D = some (.lst acc) ∧ acc.length < sizeLine ∧ Nx (upd H4 D (.lst (acc ++ [y]))) else Nx H3) := by
  refine lc_gen Pv h0 (fun i H hi p => wk.go i H (hsm i H p) hi) (fun H p => wk.stop H (hsm _ H p)) (fun i x H H' hi p y => ?_) hd
  obtain ⟨e, ex⟩ := wk.yld i x H H' (hsm i H p) y
  subst e
  exact hs i x _ ex p
theorem for_wk {J : It} {H0 H : Hp} {xs : List V} {g : TG} {tb : TS} {D : Ends} {σ : L2.St} (wk : Wk J H0 xs) (Pv : Nat → L2.St → Hp → Prop) (hsm : ∀ i σ H, Pv i σ H → Same H0 H) (h0 : Pv 0 σ H)
    (hs : ∀ i x σ H, xs[i]? = some x → Pv i σ H → g x σ H fun σ2 H2 => tb { D with nx := Pv (i + 1), ct := Pv (i + 1), bk := D.nx } σ2 H2) (hd : ∀ σ H, Pv xs.length σ H → D.nx σ H) :
    ∃ W : Nat → Nat → L2.St → Hp → Prop, (∃ m, W 0 m σ H) ∧ ∀ i m σ H, W i m σ H →
      (J.stop i H ∧ D.nx σ H) ∨ (J.go i H ∧ ∃ N : L2.St → Hp → Prop, (∀ σ' H', N σ' H' → ∃ m', m' < m ∧ W (i + 1) m' σ' H') ∧ ∀ x H', J.yld i H x H' → g x σ H' fun σ2 H2 => tb { D with nx := N, ct := N, bk := D.nx } σ2 H2) := by
  refine ⟨fun i m σ H => m = xs.length - i ∧ i ≤ xs.length ∧ Pv i σ H, ⟨xs.length, by omega, Nat.zero_le _, h0⟩, ?_⟩
  rintro i m σ H ⟨rfl, hi, p⟩
  by_cases hlt : i < xs.length
  · refine Or.inr ⟨wk.go i H (hsm i σ H p) hlt, Pv (i + 1), fun σ' H' p' => ⟨xs.length - (i + 1), by omega, rfl, hlt, p'⟩, fun x H' y => ?_⟩
    obtain ⟨e, ex⟩ := wk.yld i x H H' (hsm i σ H p) y
    subst e
    exact hs i x σ _ ex p
  · have e : i = xs.length := by omega
    subst e
    exact Or.inl ⟨wk.stop H (hsm _ σ H p), hd σ H p⟩
section
variable {P : Program} {w : World} {K : PySem.W.Frag} {mg : Str → Option Value} {base : Heap}
theorem lex1 {c d : Nat} : (!decide (([c] : List Nat) < [d])) = decide (d ≤ c) := by
  have e : (([c] : List Nat) < [d]) ↔ c < d := by
    rw [List.cons_lt_cons_iff]
    simp
  by_cases h : c < d
  · rw [decide_eq_true (e.mpr h), decide_eq_false (by omega)]
    rfl
  · rw [decide_eq_false (fun z => h (e.mp z)), decide_eq_true (by omega)]
    rfl
/-! is_kind: slots 0:value 1:letter -/
abbrev s_is_kind : Stmt := topS 11
theorem sc_is_kind : FnScope ["value", "letter"] ["value"] (defScope s_is_kind) := ⟨rfl, rfl, rfl, by decide +kernel, rfl, by decide +kernel, by decide +kernel⟩
def sp_is_kind : Sp := fun vs H Q _ => ∃ z : Str, vs = [.str z] ∧ KindOk z ∧ ∀ H', Same H H' → Q (.bl true) H'
theorem ok_is_kind (D : Df K mg "is_kind" s_is_kind) (T : Tx mg) : Has P w K mg base 1 "is_kind" ["value"] sp_is_kind := by
  refine has_of D sc_is_kind (fun _ _ _ _ _ _ us hl => match us, hl with | [_], _ => rfl) (fun vs H Q E h => ?_) (fun f cdv A outer s H vs Q E hr h => ?_)
  · obtain ⟨n, rfl, _⟩ := h
    rfl
  · obtain ⟨z, rfl, ⟨k1, k2, k3⟩, q⟩ := h
    refine ⟨_, (pss_cons (ps_if (PW.pt (pw_or (pt_not (pt_val (pe_callB call_isi (by rfl) T.n_isinstance (by decide +kernel) (pa_cons (pv 0) (pa_cons (pe_bltn (v := .ty "str") (by rfl) T.n_str (by decide +kernel) rfl) pa_nil))))) (pw_or1 (pt_not (pt_chain op_le op_le pe_int (pe_callB call_len_str (by rfl) T.n_len (by decide +kernel) (pa_cons (pv 0) pa_nil)) (pe_glI T.c_MAX_LETTERS (by rfl))))))) (pss_one (ps_ret pe_bl)) pss_nil)
    (pss_one (ps_ret (pe_callB (cr_all rfl) (by rfl) T.n_all (by decide +kernel) (pa_cons (pe_lc (own := [("letter", 1)]) rfl sc_is_kind.nd (pi_str (pv 0)) (blkOk_by (N := ["value", "letter"]) (sc := defScope s_is_kind) (by decide +kernel)) (fun _ _ _ _ _ => (pg_name (i := 1) sc_is_kind.nd rfl (by first | exact Or.inl rfl | exact Or.inr rfl))) (fun _ _ _ _ _ => pts_nil) (fun _ _ _ _ _ => (pe_chain op_le_str op_le_str pe_str (pv 1) pe_str))) pa_nil))))), ?_⟩
    refine ⟨_, rfl, _, _, _, _, true, rfl, .ty "str", .base (.str z), kit_ty (by decide +kernel), true, rfl, iteF ?_⟩
    refine ⟨_, rfl, z, rfl, smallE (by omega), _, _, rfl, rfl, _, rfl, iteP (decide_eq_true (by omega)) ⟨_, _, rfl, rfl, _, rfl, iteN ?_ ?_⟩⟩
    · show (!decide ((z.length : Int) ≤ 8)) = false
      rw [decide_eq_true (by omega)]
      rfl
    refine ⟨_, rfl, z, rfl, fun L nL => lc_gen (n := z.cps.size) (fun i H' => Same H H' ∧ H' L = some (.lst ((List.replicate i true).map V.bl))) ⟨same_upd nL, upd_same⟩ (fun i H' hi _ => hi) (fun H' _ => Nat.le_refl _) (fun i x H1 H2 hi p y => ?_) (fun H' p => ?_)⟩
    · obtain ⟨rfl, c, ec, rfl⟩ := y
      obtain ⟨sm, hL⟩ := p
      have hc : 97 ≤ c ∧ c ≤ 122 := k3 c (by
        have := Array.mem_of_getElem? ec
        simpa using this)
      have ea : ("a" : Str).cps.toList = [97] := by decide +kernel
      have ez : ("z" : Str).cps.toList = [122] := by decide +kernel
      refine ⟨rfl, yesT ⟨_, rfl, _, _, rfl, rfl, _, rfl, iteP ?_ ⟨_, _, rfl, rfl, _, hL, ?_, ?_, ?_⟩⟩⟩
      · show (!decide (([c] : List Nat) < ("a" : Str).cps.toList)) = true
        rw [ea, lex1]
        exact decide_eq_true hc.1
      · simp only [List.length_map, List.length_replicate]
        exact small (by have : z.cps.size = z.length := rfl; omega)
      · intro b o e
        have nb : b ≠ L := ne_of_none e nL
        rw [upd_ne nb]
        exact sm b o e
      · rw [upd_same]
        have e1 : (!decide ((("z" : Str).cps.toList) < ([c] : List Nat))) = true := by
          rw [ez, lex1]
          exact decide_eq_true hc.2
        show some (HO.lst ((List.replicate i true).map V.bl ++ [V.bl (!decide ((("z" : Str).cps.toList) < ([c] : List Nat)))])) = _
        rw [e1, List.replicate_succ', List.map_append]
        rfl
    · refine ⟨L, _, rfl, .of p.2, ?_⟩
      have e : ((List.replicate z.cps.size true).all id) = true := by simp
      rw [e]
      exact q H' p.1
def StOk (st : Option Run) : Prop := ∀ r, st = some r → KindOk r.1 ∧ 1 ≤ r.2
theorem at0 {α : Type} {x y : α} : atI [x, y] 0 = some x := rfl
theorem at1 {α : Type} {x y : α} : atI [x, y] 1 = some y := rfl
theorem ix0 {K : PySem.W.Frag} {H : Hp} {t : Addr} {x y : V} {Q : VK} (h : Sq2 H t [x, y]) (q : Q x H) : rIx K (.ref t) (.int 0) H Q := h.elim (fun z => .inl ⟨t, _, 0, _, rfl, rfl, .of z, at0, q⟩) (fun z => .inr (.inl ⟨t, _, 0, _, rfl, rfl, .of z, at0, q⟩))
theorem ix1 {K : PySem.W.Frag} {H : Hp} {t : Addr} {x y : V} {Q : VK} (h : Sq2 H t [x, y]) (q : Q y H) : rIx K (.ref t) (.int 1) H Q := h.elim (fun z => .inl ⟨t, _, 1, _, rfl, rfl, .of z, at1, q⟩) (fun z => .inr (.inl ⟨t, _, 1, _, rfl, rfl, .of z, at1, q⟩))
theorem all_rep (n : Nat) : ((List.replicate n true).all id) = true := by simp
/-! is_run: slots 0:value -/
abbrev s_is_run : Stmt := topS 12
theorem sc_is_run : FnScope ["value"] ["value"] (defScope s_is_run) := ⟨rfl, rfl, rfl, by decide +kernel, rfl, by decide +kernel, by decide +kernel⟩
def sp_is_run : Sp := fun vs H Q _ => ∃ (v : V) (r : Run), vs = [v] ∧ RunG H v r ∧ RunOk r ∧ ∀ H', Same H H' → Q (.bl true) H'
theorem ok_is_run (D : Df K mg "is_run" s_is_run) (T : Tx mg) (G_is_couple : Has P w K mg base 1 "is_couple" ["value"] sp_is_couple) (G_is_kind : Has P w K mg base 1 "is_kind" ["value"] sp_is_kind) (G_is_within : Has P w K mg base 2 "is_within" ["value", "low", "high"] sp_is_within) :
    Has P w K mg base 3 "is_run" ["value"] sp_is_run := by
  refine has_of D sc_is_run (fun _ _ _ _ _ _ us hl => match us, hl with | [_], _ => rfl) (fun vs H Q E h => ?_) (fun f cdv A outer s H vs Q E hr h => ?_)
  · obtain ⟨v, r, rfl, _⟩ := h
    rfl
  · obtain ⟨v, r, rfl, ⟨t, rfl, ht⟩, ⟨k, c1, c2⟩, q⟩ := h
    refine ⟨_, (pss_one (ps_ret (pe_and (pe_callH G_is_couple (hr.mono (by omega)) (by rfl) (pa_cons (pv 0) pa_nil)) (pe_and (pe_callH G_is_kind (hr.mono (by omega)) (by rfl) (pa_cons (pe_ix ix_seq (pv 0) pe_int (fun _ _ => rfl)) pa_nil)) (pe_one (pe_callH G_is_within (hr.mono (by omega)) (by rfl) (pa_cons (pe_ix ix_seq (pv 0) pe_int (fun _ _ => rfl)) (pa_cons pe_int (pa_cons (pe_glI T.c_MAX_COUNT (by rfl)) pa_nil))))))))), ?_⟩
    refine ⟨_, rfl, t, _, rfl, ht, rfl, fun H1 s1 => ⟨true, rfl, iteT ?_⟩⟩
    refine ⟨_, rfl, ix0 (ht.same s1) ⟨r.1, rfl, k, fun H2 s2 => ⟨true, rfl, iteT ?_⟩⟩⟩
    refine ⟨_, rfl, ix1 ((ht.same s1).same s2) ⟨r.2, 1, _, rfl, ?_⟩⟩
    rw [decide_eq_true ⟨c1, c2⟩]
    exact q _ (s1.trans s2)
/-! is_sequence: slots 0:value 1:run 2:following -/
abbrev s_is_sequence : Stmt := topS 13
theorem sc_is_sequence : FnScope ["value", "run", "following"] ["value"] (defScope s_is_sequence) := ⟨rfl, rfl, rfl, by decide +kernel, rfl, by decide +kernel, by decide +kernel⟩
def sp_is_sequence : Sp := fun vs H Q _ => ∃ (v : V) (rs : List Run), vs = [v] ∧ RunsG H v rs ∧ SeqOk rs ∧ ∀ H', Same H H' → Q (.bl true) H'
theorem ok_is_sequence (D : Df K mg "is_sequence" s_is_sequence) (T : Tx mg) (G_is_listed : Has P w K mg base 1 "is_listed" ["value", "most"] sp_is_listed) (G_is_run : Has P w K mg base 3 "is_run" ["value"] sp_is_run) :
    Has P w K mg base 4 "is_sequence" ["value"] sp_is_sequence := by
  refine has_of D sc_is_sequence (fun _ _ _ _ _ _ us hl => match us, hl with | [_], _ => rfl) (fun vs H Q E h => ?_) (fun f cdv A outer s H vs Q E hr h => ?_)
  · obtain ⟨v, r, rfl, _⟩ := h
    rfl
  · obtain ⟨v, rs, rfl, ⟨a, xs, rfl, hx, hp⟩, ⟨l4, rok, alt⟩, q⟩ := h
    have lx : xs.length = rs.length := Paired.len hp
    refine ⟨_, (pss_cons (ps_if (PW.pt (pw_or (pt_not (pt_val (pe_callH G_is_listed (hr.mono (by omega)) (by rfl) (pa_cons (pv 0) (pa_cons (pe_glI T.c_MAX_RUNS (by rfl)) pa_nil))))) (pw_or1 (pt_not (pt_val (pe_callB (cr_all rfl) (by rfl) T.n_all (by decide +kernel) (pa_cons (pe_lc (own := [("run", 1)]) rfl sc_is_sequence.nd (pi_seqV 0) (blkOk_by (N := ["value", "run", "following"]) (sc := defScope s_is_sequence) (by decide +kernel)) (fun _ _ _ _ _ => (pg_name (i := 1) sc_is_sequence.nd rfl (by first | exact Or.inl rfl | exact Or.inr rfl))) (fun _ _ _ _ _ => pts_nil) (fun _ _ _ _ _ => (pe_callH G_is_run (hr.mono (by omega)) (by rfl) (pa_cons (pv 1) pa_nil)))) pa_nil))))))) (pss_one (ps_ret pe_bl)) pss_nil)
    (pss_one (ps_ret (pe_callB (cr_all rfl) (by rfl) T.n_all (by decide +kernel) (pa_cons (pe_lc (own := [("run", 1), ("following", 2)]) rfl sc_is_sequence.nd (pi_zip1 (i := 0) (RZ.pi_zipA (by rfl) T.n_zip (pa_cons (pv 0) (pa_cons (pe_slice (SlR.or sl_list sl_tupA) (pv 0) (po_some pe_int) po_none) pa_nil))) (fun _ _ _ q => ⟨1, rfl, q⟩) (fun _ _ _ q => q)) (blkOk_by (N := ["value", "run", "following"]) (sc := defScope s_is_sequence) (by decide +kernel)) (fun _ _ _ _ _ => (pg_tupK (K := K) (n := 2) rfl rfl (pgs_cons (pg_name (i := 1) sc_is_sequence.nd rfl (by first | exact Or.inl rfl | exact Or.inr rfl)) (pgs_cons (pg_name (i := 2) sc_is_sequence.nd rfl (by first | exact Or.inl rfl | exact Or.inr rfl)) pgs_nil)))) (fun _ _ _ _ _ => pts_nil) (fun _ _ _ _ _ => (pe_cmpR op_ne (pe_ix (ix_seqK (K := K) rfl) (pv 1) pe_int (fun _ _ => rfl)) (pe_ix (ix_seqK (K := K) rfl) (pv 2) pe_int (fun _ _ => rfl)) (nomark _)))) pa_nil))))), ?_⟩
    refine ⟨_, rfl, a, xs, 400, rfl, hx, fun H1 s1 => ⟨_, rfl, iteN ?_ ?_⟩⟩
    · show (!decide ((xs.length : Int) ≤ 400)) = false
      rw [decide_eq_true (by omega)]
      rfl
    refine ⟨a, xs, rfl, hx.same s1, fun J wk L nL => lc_wk wk (fun i H' => Same H1 H' ∧ H' L = some (.lst ((List.replicate i true).map V.bl))) (fun _ _ p => p.1) ⟨same_upd nL, upd_same⟩ (fun i x H2 ex p => ?_) (fun H2 p => ?_)⟩
    · obtain ⟨sm, hL⟩ := p
      obtain ⟨r, er, hr1⟩ := Paired.at hp ex
      have hi : i < xs.length := (List.getElem?_eq_some_iff.mp ex).1
      refine ⟨rfl, yesT ⟨_, rfl, x, r, rfl, RunG.same (s1.trans sm) hr1, rok r (List.mem_of_getElem? er), fun H3 s3 => ⟨_, s3 _ _ hL, ?_, same_grow nL (sm.trans s3), ?_⟩⟩⟩
      · simp only [List.length_map, List.length_replicate]
        exact small (by omega)
      · rw [upd_same, List.replicate_succ', List.map_append]
        rfl
    · refine ⟨L, _, rfl, .of p.2, _, rfl, iteN ?_ ?_⟩
      · rw [all_rep]
        rfl
      have s2 : Same H H2 := s1.trans p.1
      refine ⟨a, xs, rfl, hx.same s2, fun J Hc sc wk M nM => ?_⟩
      have sA : Same H Hc := s2.trans sc
      refine lc_gen (n := xs.length - 1) (fun i H' => Same Hc H' ∧ H' M = some (.lst ((List.replicate i true).map V.bl))) ⟨same_upd nM, upd_same⟩ (fun i H' hi p => wk.go i H' p.1 (by omega)) (fun H' p => wk.stop H' p.1) (fun i x H3 H4 hi p y => ?_) (fun H' p => ?_)
      · obtain ⟨T', x1, x2, rfl, nT, rfl, g1, g2⟩ := wk.yld i x H3 H4 p.1 y
        obtain ⟨sm, hM⟩ := p
        have g2 := g2 (by omega)
        have sB : Same H H3 := sA.trans sm
        obtain ⟨r1, e1, v1⟩ := Paired.at hp g1
        obtain ⟨r2, e2, v2⟩ := Paired.at hp g2
        obtain ⟨t1, rfl, w1⟩ := RunG.same (sB.trans (same_upd (o := .tup [x1, x2]) nT)) v1
        obtain ⟨t2, rfl, w2⟩ := RunG.same (sB.trans (same_upd (o := .tup [_, x2]) nT)) v2
        refine ⟨T', _, rfl, .of upd_same, rfl, _, _, rfl, _, _, rfl, rfl, rfl, yesT ?_⟩
        refine ⟨_, rfl, ix0 w1 ⟨_, rfl, ix0 w2 ⟨rfl, _, same_upd nT _ _ hM, ?_, same_grow nM (sm.trans (same_upd nT)), ?_⟩⟩⟩
        · simp only [List.length_map, List.length_replicate]
          exact small (by omega)
        · rw [upd_same, List.replicate_succ', List.map_append]
          have ne : (!decide (V.str r1.1 = V.str r2.1)) = true := by
            rw [decide_eq_false (fun z => alt i r1 r2 e1 e2 (V.str.inj z))]
            rfl
          rw [ne]
          rfl
      · refine ⟨M, _, rfl, .of p.2, ?_⟩
        rw [all_rep]
        exact q _ (sA.trans p.1)
/-! checked_runs: slots 0:sequence 1:kind 2:count -/
abbrev s_checked_runs : Stmt := topS 14
theorem sc_checked_runs : FnScope ["sequence", "kind", "count"] ["sequence"] (defScope s_checked_runs) := ⟨rfl, rfl, rfl, by decide +kernel, rfl, by decide +kernel, by decide +kernel⟩
def sp_checked_runs : Sp := fun vs H Q _ => ∃ (v : V) (rs : List Run), vs = [v] ∧ RunsG H v rs ∧ SeqOk rs ∧ ∀ H' p, Same H H' → H p = none → Runs H' p rs → Q (.ref p) H'
theorem ok_checked_runs (D : Df K mg "checked_runs" s_checked_runs) (T : Tx mg) (G_is_sequence : Has P w K mg base 4 "is_sequence" ["value"] sp_is_sequence) :
    Has P w K mg base 5 "checked_runs" ["sequence"] sp_checked_runs := by
  refine has_of D sc_checked_runs (fun _ _ _ _ _ _ us hl => match us, hl with | [_], _ => rfl) (fun vs H Q E h => ?_) (fun f cdv A outer s H vs Q E hr h => ?_)
  · obtain ⟨v, r, rfl, _⟩ := h
    rfl
  · obtain ⟨v, rs, rfl, hR, ok, q⟩ := h
    refine ⟨_, (pss_cons (ps_if (pt_not (pt_val (pe_callH G_is_sequence (hr.mono (by omega)) (by rfl) (pa_cons (pv 0) pa_nil)))) (pss_one ps_never) pss_nil)
    (pss_one (ps_ret (pe_lc (own := [("kind", 1), ("count", 2)]) rfl sc_checked_runs.nd (pi_seqV 0) (blkOk_by (N := ["sequence", "kind", "count"]) (sc := defScope s_checked_runs) (by decide +kernel)) (fun _ _ _ _ _ => (pg_any (n := 2) rfl (pgs_cons (pg_name (i := 1) sc_checked_runs.nd rfl (by first | exact Or.inl rfl | exact Or.inr rfl)) (pgs_cons (pg_name (i := 2) sc_checked_runs.nd rfl (by first | exact Or.inl rfl | exact Or.inr rfl)) pgs_nil)))) (fun _ _ _ _ _ => pts_nil) (fun _ _ _ _ _ => (pe_tup (pa_cons (pv 1) (pa_cons (pv 2) pa_nil)))))))), ?_⟩
    refine ⟨_, rfl, v, rs, rfl, hR, ok, fun H1 s1 => ⟨true, rfl, iteF ?_⟩⟩
    obtain ⟨a, xs, rfl, hx, hp⟩ := hR
    have lx : xs.length = rs.length := Paired.len hp
    refine ⟨a, xs, rfl, hx.same s1, fun J wk L nL => lc_wk wk (fun i H' => Same H1 H' ∧ ∃ ys, H' L = some (.lst ys) ∧ Paired (RunV H') ys (rs.take i)) (fun _ _ p => p.1) ⟨same_upd nL, [], upd_same, .nil⟩ (fun i x H2 ex p => ?_) (fun H2 p => ?_)⟩
    · obtain ⟨sm, ys, hL, hy⟩ := p
      obtain ⟨r, er, hr1⟩ := Paired.at hp ex
      have hi : i < xs.length := (List.getElem?_eq_some_iff.mp ex).1
      obtain ⟨t, rfl, ht⟩ := RunG.same (s1.trans sm) hr1
      refine ⟨t, _, rfl, ht, rfl, _, _, rfl, _, _, rfl, rfl, rfl, yesT ⟨_, rfl, _, rfl, (by show 2 ≤ sizeLine; decide), fun n nn => ⟨_, same_upd nn _ _ hL, ?_, same_grow nL (sm.trans (same_upd nn)), _, upd_same, ?_⟩⟩⟩
      · have := Paired.len hy
        rw [List.length_take] at this
        exact small (by have := ok.1; omega)
      · rw [take_snoc er]
        refine Paired.app (prs_grow (same_upd nn _ _ hL) (prs_same (same_upd nn) hy)) (.cons ?_ .nil)
        exact RunV.grow (same_upd nn _ _ hL) ⟨n, rfl, upd_same⟩
    · obtain ⟨sm, ys, hL, hy⟩ := p
      rw [lx, List.take_length] at hy
      exact q H2 L (s1.trans sm) (s1.free nL) ⟨ys, hL, hy⟩
end
end UP

set_option Elab.async false
set_option linter.all false
set_option maxRecDepth 100000
set_option maxHeartbeats 4000000
namespace UP
open PySem PySem.Spec PyProof.Rows L2
section
variable {P : Program} {w : World} {K : PySem.W.Frag} {mg : Str → Option Value} {base : Heap}
def lenR (rs : List Run) : Int := (rs.map (·.2)).sum
end
end UP

set_option Elab.async false
set_option linter.all false
set_option maxRecDepth 100000
set_option maxHeartbeats 4000000
namespace UP
open PySem PySem.Spec PyProof.Rows L2
/-! ### the mirror of cut -/
theorem lenR_nil : lenR [] = 0 := rfl
theorem lenR_cons (r : Run) (l : List Run) : lenR (r :: l) = r.2 + lenR l := by
  unfold lenR
  rw [List.map_cons, List.sum_cons]
theorem lenR_app (l m : List Run) : lenR (l ++ m) = lenR l + lenR m := by
  induction l with
  | nil => rw [List.nil_append, lenR_nil]; omega
  | cons r t ih => rw [List.cons_append, lenR_cons, lenR_cons, ih]; omega
theorem lenR_snoc (l : List Run) (r : Run) : lenR (l ++ [r]) = lenR l + r.2 := by
  rw [lenR_app, lenR_cons, lenR_nil]
  omega
def sizeR (b s e c : Int) : Int := (if b + c < e then b + c else e) - (if b > s then b else s)
def pieceR (b s e : Int) (r : Run) : List Run := if 0 < sizeR b s e r.2 then [(r.1, sizeR b s e r.2)] else []
def cutR (s e : Int) : Int → List Run → List Run
  | _, [] => []
  | b, r :: t => pieceR b s e r ++ cutR s e (b + r.2) t
theorem cutR_snoc (s e : Int) : ∀ (l : List Run) (b : Int) (r : Run), cutR s e b (l ++ [r]) = cutR s e b l ++ pieceR (b + lenR l) s e r
  | [], b, r => by
    show pieceR b s e r ++ [] = [] ++ pieceR (b + lenR []) s e r
    rw [lenR_nil, Int.add_zero, List.append_nil, List.nil_append]
  | x :: t, b, r => by
    show pieceR b s e x ++ cutR s e (b + x.2) (t ++ [r]) = (pieceR b s e x ++ cutR s e (b + x.2) t) ++ pieceR (b + lenR (x :: t)) s e r
    rw [cutR_snoc s e t, lenR_cons, List.append_assoc, Int.add_assoc]
theorem pieceR_len (b s e : Int) (r : Run) : (pieceR b s e r).length ≤ 1 := by
  unfold pieceR
  split <;> simp
theorem cutR_len (s e : Int) : ∀ (l : List Run) (b : Int), (cutR s e b l).length ≤ l.length
  | [], _ => Nat.le_refl _
  | r :: t, b => by
    show (pieceR b s e r ++ cutR s e (b + r.2) t).length ≤ (r :: t).length
    have h1 := pieceR_len b s e r
    have h2 := cutR_len s e t (b + r.2)
    rw [List.length_append, List.length_cons]
    omega
section
variable {P : Program} {w : World} {K : PySem.W.Frag} {mg : Str → Option Value} {base : Heap}
end
end UP

set_option Elab.async false
set_option linter.all false
set_option maxRecDepth 100000
set_option maxHeartbeats 4000000
namespace UP
open PySem PySem.Spec PyProof.Rows L2
/-! ### the mirror of the states -/
def numR : Option Run → Int
  | none => 0
  | some r => r.2
def leavR : Option Run → Str → Int → Int
  | none, _, _ => 0
  | some r, k, c => if r.1 = k then 0 else if c < r.2 then c else r.2
def stepR : Option Run → Str → Int → Option Run
  | some r, k, c => if r.1 = k then some (k, r.2 + c) else if 0 < r.2 - c then some (r.1, r.2 - c) else if r.2 - c = 0 then none else some (k, -(r.2 - c))
  | none, k, c => some (k, c)
def withR (k : Str) (n : Int) : Option Run := if n = 0 then none else some (k, n)
def stR (rs : List Run) (st : Option Run) : Option Run := rs.foldl (fun s r => stepR s r.1 r.2) st
theorem stR_snoc (l : List Run) (r : Run) (st : Option Run) : stR (l ++ [r]) st = stepR (stR l st) r.1 r.2 := by
  unfold stR
  rw [List.foldl_append]
  rfl
section
variable {P : Program} {w : World} {K : PySem.W.Frag} {mg : Str → Option Value} {base : Heap}
/-! waiting_number: slots 0:state -/
abbrev s_waiting_number : Stmt := topS 16
theorem sc_waiting_number : FnScope ["state"] ["state"] (defScope s_waiting_number) := ⟨rfl, rfl, rfl, by decide +kernel, rfl, by decide +kernel, by decide +kernel⟩
def sp_waiting_number : Sp := fun vs H Q _ => ∃ (v : V) (st : Option Run), vs = [v] ∧ StV H v st ∧ Q (.int (numR st)) H
theorem ok_waiting_number (D : Df K mg "waiting_number" s_waiting_number) : Has P w K mg base 1 "waiting_number" ["state"] sp_waiting_number := by
  refine has_of D sc_waiting_number (fun _ _ _ _ _ _ us hl => match us, hl with | [_], _ => rfl) (fun vs H Q E h => ?_) (fun f cdv A outer s₀ H vs Q E hr h => ?_)
  · obtain ⟨a, rs, rfl, _⟩ := h
    rfl
  · obtain ⟨v, st, rfl, hv, q⟩ := h
    refine ⟨_, (pss_one (ps_ret (pe_ifExp (pt_cmpR op_isN (pv 0) pe_non (nomark _)) pe_int (pe_ix ix_tup (pv 0) pe_int (fun _ _ => rfl))))), ?_⟩
    cases st with
    | none =>
      cases hv
      exact ⟨_, rfl, rfl, _, rfl, iteP rfl q⟩
    | some r =>
      obtain ⟨t, rfl, ht⟩ := hv
      exact ⟨_, rfl, rfl, _, rfl, iteN rfl ⟨_, rfl, t, _, 1, _, rfl, rfl, .of ht, at1, q⟩⟩
/-! leaving_number: slots 0:state 1:kind 2:count -/
abbrev s_leaving_number : Stmt := topS 18
theorem sc_leaving_number : FnScope ["state", "kind", "count"] ["state", "kind", "count"] (defScope s_leaving_number) := ⟨rfl, rfl, rfl, by decide +kernel, rfl, by decide +kernel, by decide +kernel⟩
def sp_leaving_number : Sp := fun vs H Q _ => ∃ (v : V) (st : Option Run) (k : Str) (c : Int), vs = [v, .str k, .int c] ∧ StV H v st ∧ Q (.int (leavR st k c)) H
theorem ok_leaving_number (D : Df K mg "leaving_number" s_leaving_number) (T : Tx mg) : Has P w K mg base 1 "leaving_number" ["state", "kind", "count"] sp_leaving_number := by
  refine has_of D sc_leaving_number (fun _ _ _ _ _ _ us hl => match us, hl with | [_, _, _], _ => rfl) (fun vs H Q E h => ?_) (fun f cdv A outer s₀ H vs Q E hr h => ?_)
  · obtain ⟨a, rs, _, _, rfl, _⟩ := h
    rfl
  · obtain ⟨v, st, k, c, rfl, hv, q⟩ := h
    refine ⟨_, (pss_cons (ps_if (PW.pt (pw_or (pt_cmpR op_isN (pv 0) pe_non (nomark _)) (pw_or1 (pt_cmpR op_eq (pe_ix ix_tup (pv 0) pe_int (fun _ _ => rfl)) (pv 1) (nomark _))))) (pss_one (ps_ret pe_int)) pss_nil)
    (pss_one (ps_ret (pe_callB (call_min2 rfl) (by rfl) T.n_min (by decide +kernel) (pa_cons (pe_ix ix_tup (pv 0) pe_int (fun _ _ => rfl)) (pa_cons (pv 2) pa_nil)))))), ?_⟩
    cases st with
    | none =>
      cases hv
      exact ⟨_, rfl, rfl, _, rfl, iteP rfl (iteT q)⟩
    | some r =>
      obtain ⟨t, rfl, ht⟩ := hv
      refine ⟨_, rfl, rfl, _, rfl, iteN rfl ⟨_, rfl, t, _, 0, _, rfl, rfl, .of ht, at0, _, rfl, rfl, _, rfl, ?_⟩⟩
      by_cases e : r.1 = k
      · refine iteP (by rw [e]; exact decide_eq_true rfl) ?_
        rw [show leavR (some r) k c = 0 from if_pos e] at q
        exact q
      · refine iteN (decide_eq_false fun z => e (V.str.inj z)) ⟨_, rfl, t, _, 1, _, rfl, rfl, .of ht, at1, _, rfl, _, _, rfl, ?_⟩
        rw [show leavR (some r) k c = if c < r.2 then c else r.2 from if_neg e] at q
        exact q
/-! state_with: slots 0:kind 1:number -/
abbrev s_state_with : Stmt := topS 17
theorem sc_state_with : FnScope ["kind", "number"] ["kind", "number"] (defScope s_state_with) := ⟨rfl, rfl, rfl, by decide +kernel, rfl, by decide +kernel, by decide +kernel⟩
def sp_state_with : Sp := fun vs H Q _ => ∃ (k : Str) (n : Int), vs = [.str k, .int n] ∧ ∀ H' v', Same H H' → StV H' v' (withR k n) → Q v' H'
theorem ok_state_with (D : Df K mg "state_with" s_state_with) : Has P w K mg base 1 "state_with" ["kind", "number"] sp_state_with := by
  refine has_of D sc_state_with (fun _ _ _ _ _ _ us hl => match us, hl with | [_, _], _ => rfl) (fun vs H Q E h => ?_) (fun f cdv A outer s₀ H vs Q E hr h => ?_)
  · obtain ⟨k, n, rfl, _⟩ := h
    rfl
  · obtain ⟨k, n, rfl, q⟩ := h
    refine ⟨_, (pss_one (ps_ret (pe_ifExp (pt_cmpR op_eq (pv 1) pe_int (nomark _)) pe_non (pe_tup (pa_cons (pv 0) (pa_cons (pv 1) pa_nil)))))), ?_⟩
    refine ⟨_, rfl, rfl, _, rfl, ?_⟩
    by_cases e : n = 0
    · rw [show withR k n = none from if_pos e] at q
      exact iteP (decide_eq_true (by rw [e])) (q _ _ (Same.refl _) rfl)
    · rw [show withR k n = some (k, n) from if_neg e] at q
      refine iteN (decide_eq_false fun z => e (V.int.inj z)) ?_
      exact ⟨_, rfl, _, rfl, (by show 2 ≤ sizeLine; decide), fun n' nn => q _ _ (same_upd nn) ⟨n', rfl, upd_same⟩⟩
/-! state_after_run: slots 0:state 1:kind 2:count 3:left_over -/
abbrev s_state_after_run : Stmt := topS 19
theorem sc_state_after_run : FnScope ["state", "kind", "count", "left_over"] ["state", "kind", "count"] (defScope s_state_after_run) := ⟨rfl, rfl, rfl, by decide +kernel, rfl, by decide +kernel, by decide +kernel⟩
def sp_state_after_run : Sp := fun vs H Q _ => ∃ (v : V) (st : Option Run) (k : Str) (c : Int), vs = [v, .str k, .int c] ∧ StV H v st ∧ 1 ≤ c ∧ ∀ H' v', Same H H' → StV H' v' (stepR st k c) → Q v' H'
theorem ok_state_after_run (D : Df K mg "state_after_run" s_state_after_run) (G_waiting_number : Has P w K mg base 1 "waiting_number" ["state"] sp_waiting_number) (G_state_with : Has P w K mg base 1 "state_with" ["kind", "number"] sp_state_with) : Has P w K mg base 2 "state_after_run" ["state", "kind", "count"] sp_state_after_run := by
  refine has_of D sc_state_after_run (fun _ _ _ _ _ _ us hl => match us, hl with | [_, _, _], _ => rfl) (fun vs H Q E h => ?_) (fun f cdv A outer s₀ H vs Q E hr h => ?_)
  · obtain ⟨a, rs, _, _, rfl, _⟩ := h
    rfl
  · obtain ⟨v, st, k, c, rfl, hv, hc, q⟩ := h
    refine ⟨_, (pss_cons (ps_if (PW.pt (pw_and (pt_cmpR op_notN (pv 0) pe_non (nomark _)) (pw_and1 (pt_cmpR op_eq (pe_ix ix_tup (pv 0) pe_int (fun _ _ => rfl)) (pv 1) (nomark _))))) (pss_one (ps_ret (pe_tup (pa_cons (pv 1) (pa_cons (pe_op op_add (pe_ix ix_tup (pv 0) pe_int (fun _ _ => rfl)) (pv 2)) pa_nil))))) pss_nil)
    (pss_cons (ps_set (i := 3) sc_state_after_run.nd rfl (by first | exact Or.inl rfl | exact Or.inr rfl) (pe_op op_sub (pe_callH G_waiting_number (hr.mono (by omega)) (by rfl) (pa_cons (pv 0) pa_nil)) (pv 2)))
    (pss_cons (ps_if (pt_cmpR op_gt (pv 3) pe_int (nomark _)) (pss_one (ps_ret (pe_tup (pa_cons (pe_ix ix_tup (pv 0) pe_int (fun _ _ => rfl)) (pa_cons (pv 3) pa_nil))))) pss_nil)
    (pss_one (ps_ret (pe_callH G_state_with (hr.mono (by omega)) (by rfl) (pa_cons (pv 1) (pa_cons (pe_un un_neg (pv 3)) pa_nil)))))))), ?_⟩
    cases st with
    | none =>
      cases hv
      refine ⟨_, rfl, rfl, _, rfl, iteN rfl (iteF ?_)⟩
      refine ⟨_, rfl, _, none, rfl, rfl, _, rfl, _, _, rfl, rfl, ?_⟩
      refine ⟨_, rfl, _, _, rfl, rfl, _, rfl, iteN (decide_eq_false (by show ¬ (0 : Int) < 0 - c; omega)) ?_⟩
      refine ⟨_, rfl, _, rfl, _, rfl, k, -(0 - c), rfl, fun H' v' s h => q H' v' s ?_⟩
      have e : withR k (-(0 - c)) = some (k, c) := by
        unfold withR
        rw [if_neg (by omega), show -(0 - c) = c by omega]
      rw [e] at h
      exact h
    | some r =>
      obtain ⟨t, rfl, ht⟩ := hv
      refine ⟨_, rfl, rfl, _, rfl, iteP rfl ⟨_, rfl, t, _, 0, _, rfl, rfl, .of ht, at0, _, rfl, rfl, _, rfl, ?_⟩⟩
      by_cases e : r.1 = k
      · have es : stepR (some r) k c = some (k, r.2 + c) := if_pos e
        rw [es] at q
        refine iteP (by rw [e]; exact decide_eq_true rfl) ?_
        exact ⟨_, rfl, _, rfl, t, _, 1, _, rfl, rfl, .of ht, at1, _, rfl, _, _, rfl, rfl, (by show 2 ≤ sizeLine; decide), fun n nn => q _ _ (same_upd nn) ⟨n, rfl, upd_same⟩⟩
      · refine iteN (decide_eq_false fun z => e (V.str.inj z)) ?_
        have es : stepR (some r) k c = if 0 < r.2 - c then some (r.1, r.2 - c) else if r.2 - c = 0 then none else some (k, -(r.2 - c)) := if_neg e
        rw [es] at q
        refine ⟨_, rfl, _, some r, rfl, ⟨t, rfl, ht⟩, _, rfl, _, _, rfl, rfl, ?_⟩
        refine ⟨_, rfl, _, _, rfl, rfl, _, rfl, ?_⟩
        by_cases e1 : 0 < r.2 - c
        · rw [if_pos e1] at q
          refine iteP (decide_eq_true e1) ?_
          exact ⟨_, rfl, t, _, 0, _, rfl, rfl, .of ht, at0, _, rfl, (by show 2 ≤ sizeLine; decide), fun n nn => q _ _ (same_upd nn) ⟨n, rfl, upd_same⟩⟩
        · rw [if_neg e1] at q
          refine iteN (decide_eq_false e1) ⟨_, rfl, _, rfl, _, rfl, k, -(r.2 - c), rfl, fun H' v' s h => q H' v' s ?_⟩
          have e3 : withR k (-(r.2 - c)) = if r.2 - c = 0 then none else some (k, -(r.2 - c)) := by
            unfold withR
            by_cases e2 : r.2 - c = 0
            · rw [if_pos e2, if_pos (by omega)]
            · rw [if_neg e2, if_neg (by omega)]
          rw [e3] at h
          exact h
end
end UP

set_option Elab.async false
set_option linter.all false
set_option maxRecDepth 100000
set_option maxHeartbeats 4000000
namespace UP
open PySem PySem.Spec PyProof.Rows L2
def DfD (K : PySem.W.Frag) (mg : Str → Option Value) (x : Str) (st : Stmt) (dvs : List V) : Prop := ∃ f fd, mg x = some (.ref f) ∧ FunD K x x (defArgs st) (defBody st) (defScope st) dvs [] f fd
/-- a def whose last parameter, kw, has the default None -/
def HasD (P : Program) (w : World) (K : PySem.W.Frag) (mg : Str → Option Value) (base : Heap) (k : Nat) (x : Str) (ps : List Str) (n : Nat) (kw : Str) (sp : Sp) : Prop :=
  ∃ f fd, mg x = some (.ref f) ∧ PySem.W.keepIn K (.ref f) = true ∧ Binds K fd ps [] ∧ (∃ ds, Vals [.non] ds ∧ Binds K fd ps ds) ∧ KBn K fd ps n [kw] (fun us ws => us ++ ws) (fun vs zs => vs ++ zs) ∧ FnOk P w K mg base CX0 k f fd ps sp
section
variable {P : Program} {w : World} {K : PySem.W.Frag} {mg : Str → Option Value} {base : Heap}
theorem HasD.has {k n : Nat} {x kw : Str} {ps : List Str} {sp : Sp} (h : HasD P w K mg base k x ps n kw sp) : Has P w K mg base k x ps sp := by
  obtain ⟨f, fd, g, kp, b, _, _, F⟩ := h
  exact ⟨f, fd, g, kp, b, F⟩
theorem has_ofD {x kw : Str} {st : Stmt} {ps N : List Str} {k n : Nat} {sp : Sp} (D : DfD K mg x st [.non]) (S : FnScope N ps (defScope st)) (hpn : ps.length = n + 1)
    (hb : ∀ (T : Addr) (kV doc pm : Value) (an : Option Addr) (cdv ct : Value) (us its : List Value), us.length = n + 1 → its.length = 1 →
      ∃ k, bindArgs (PySem.W.fnOf x x (defArgs st) (defBody st) (defScope st) (.ref T) kV doc pm an cdv ct) ⟨us, []⟩ = seqItems? (.ref T) >>= k ∧ k (some its.toArray) = pure (ps.zip us))
    (hb1 : ∀ (T : Addr) (kV doc pm : Value) (an : Option Addr) (cdv ct : Value) (us its : List Value), us.length = n → its.length = 1 →
      ∃ k, bindArgs (PySem.W.fnOf x x (defArgs st) (defBody st) (defScope st) (.ref T) kV doc pm an cdv ct) ⟨us, []⟩ = seqItems? (.ref T) >>= k ∧ k (some its.toArray) = pure (ps.zip (us ++ its)))
    (hb2 : ∀ (T : Addr) (kV doc pm : Value) (an : Option Addr) (cdv ct : Value) (us its : List Value) (v : Value), us.length = n → its.length = 1 →
      ∃ k, bindArgs (PySem.W.fnOf x x (defArgs st) (defBody st) (defScope st) (.ref T) kV doc pm an cdv ct) ⟨us, [(kw, v)]⟩ = seqItems? (.ref T) >>= k ∧ k (some its.toArray) = pure (ps.zip (us ++ [v])))
    (len : ∀ vs H Q E, sp vs H Q E → vs.length = ps.length)
    (body : ∀ (f : Addr) (cdv : Value) (A : Around) (outer : List Env) (s : Shared) (H : Hp) (vs : List V) (Q : VK) (E : XK), Room k (A.deeper (envOfC x (defScope st) s.heap.objs.size f cdv)) → sp vs H Q E →
      ∃ t, PSs (cxOf CX0 P w K mg base N x (defScope st) f cdv A outer s H E).nox (defBody st) t ∧ t { nx := fun _ H' => Q .non H', rt := Q } (start N vs) H) :
    HasD P w K mg base (k + 1) x ps n kw sp := by
  obtain ⟨f, fd, g, F⟩ := D
  have B0 : Binds K fd ps [] := by
    obtain ⟨ds, v, b⟩ := F.binds1 (n + 1) 1 (ps := ps) (by intro z; cases z) (by rw [hpn]; rfl) fun T kV doc pm an cdv ct us its h1 h2 => by
      obtain ⟨k, e1, e2⟩ := hb T kV doc pm an cdv ct us its h1 h2
      refine ⟨k, e1, ?_⟩
      have h3 : its.length ≤ 1 := Nat.le_of_eq h2
      rw [e2, List.drop_of_length_le h3, List.append_nil]
    cases v
    exact b
  have B1 : ∃ ds, Vals [V.non] ds ∧ Binds K fd ps ds := by
    obtain ⟨ds, v, b⟩ := F.binds1 n 0 (ps := ps) (by intro z; cases z) (by rw [hpn]; rfl) fun T kV doc pm an cdv ct us its h1 h2 => by
      obtain ⟨k, e1, e2⟩ := hb1 T kV doc pm an cdv ct us its h1 h2
      exact ⟨k, e1, by rw [e2, List.drop_zero]⟩
    exact ⟨ds, v, b⟩
  have B2 : KBn K fd ps n [kw] (fun us ws => us ++ ws) (fun vs zs => vs ++ zs) := by
    refine ⟨fun s us ws X l1 l2 => ?_, fun r1 r2 => r1.append r2⟩
    obtain ⟨oc, od, dV, kV, doc, pm, an, cdv, ct, osl, rfl, lk, hcd, hD, _⟩ := F.ex
    rcases hD with ⟨z, _⟩ | ⟨_, T, o, its, m, rfl, lT, oT, rT⟩
    · cases z
    · match ws, l2 with
      | [v], _ =>
        obtain ⟨k, e1, e2⟩ := hb2 T kV doc pm an cdv ct us its v l1 rT.length.symm
        refine BindsTo.of_looks fun M => ?_
        show PySem.W.Looks M s.heap (bindArgs _ ⟨us, [(kw, v)]⟩) _
        rw [e1]
        exact looks_items X lT oT (.of_pure e2)
  refine ⟨f, fd, g, F.kp, B0, B1, B2, F.ok S len fun cdv A outer s H vs Q E hr h => ?_⟩
  obtain ⟨t, p, q⟩ := body f cdv A outer s H vs Q E hr h
  exact ⟨t, p.nox, q⟩
end
section
variable {X : Cx}
/-- the default taken -/
theorem pe_callDH {k n : Nat} {x kw : Str} {ps : List Str} {sp : Sp} {p pos : Pos} {e : Expr} {es : List Expr} {t : TA} (G : HasD X.prog X.w X.K X.mg X.base k x ps n kw sp) (hr : Room k X.A) (hg : Gl X x) (ha : PA X (e :: es) t)
    (hdb : (x == ("__debug__" : Str)) = false := by decide) (he : starEach (e :: es) X.env = (false, eval e X.env) :: starEach es X.env := by rfl) (hpl : (backTo pos (starEach es X.env)).any (·.1) = false := by rfl) :
    PE X (.Call (.Name x p) (e :: es) [] pos) (tCall sp [.non] E0 t) := by
  obtain ⟨f, fd, g, kp, _, ⟨ds, v, b⟩, _, F⟩ := G
  exact pe_call F hr hg g kp b v pass0 ha hdb he hpl
/-- the last one by its name -/
theorem pe_callNH {k n : Nat} {x kw : Str} {ps : List Str} {sp : Sp} {p pos : Pos} {e : Expr} {es : List Expr} {kws : List Keyword} {t tk : TA} (G : HasD X.prog X.w X.K X.mg X.base k x ps n kw sp) (hr : Room k X.A) (hg : Gl X x) (ha : PA X (e :: es) t) (hk : PK X kws tk)
    (h1 : (backToKw pos (keywordEach kws X.env)).all (·.1.isSome) = true := by rfl) (h2 : (backToKw pos (keywordEach kws X.env)).filterMap (·.1) = [kw] := by rfl) (hdb : (x == ("__debug__" : Str)) = false := by decide)
    (he : starEach (e :: es) X.env = (false, eval e X.env) :: starEach es X.env := by rfl) (hpl : ((backTo pos (starEach (e :: es) X.env)).any (·.1) || (backToKw pos (keywordEach kws X.env)).any (·.1.isNone)) = false := by rfl) :
    PE X (.Call (.Name x p) (e :: es) kws pos) (tCallN n 1 sp (fun vs zs => vs ++ zs) E0 t tk) := by
  obtain ⟨f, fd, g, kp, _, _, b, F⟩ := G
  exact pe_callN F hr hg g kp b pass0 ha hk h1 h2 hdb he hpl
end
section
variable {P : Program} {w : World} {K : PySem.W.Frag} {mg : Str → Option Value} {base : Heap}
theorem SeqOk.pos {rs : List Run} (h : SeqOk rs) : ∀ r ∈ rs, 1 ≤ r.2 := fun r m => (h.2.1 r m).2.1
theorem pieceR_pos {b s e : Int} {r x : Run} (h : x ∈ pieceR b s e r) : 1 ≤ x.2 := by
  unfold pieceR at h
  split at h
  · rename_i z
    simp only [List.mem_singleton] at h
    subst h
    show 1 ≤ sizeR b s e r.2
    omega
  · cases h
theorem cutR_pos {s e : Int} : ∀ {l : List Run} {b : Int}, ∀ x ∈ cutR s e b l, 1 ≤ x.2
  | [], _, x, h => by cases h
  | r :: t, b, x, h => by
    rcases List.mem_append.mp (show x ∈ pieceR b s e r ++ cutR s e (b + r.2) t from h) with h | h
    · exact pieceR_pos h
    · exact cutR_pos x h
end
end UP

set_option Elab.async false
set_option linter.all false
set_option maxRecDepth 100000
set_option maxHeartbeats 4000000
namespace UP
open PySem PySem.Spec PyProof.Rows L2
section
variable {P : Program} {w : World} {K : PySem.W.Frag} {mg : Str → Option Value} {base : Heap}
/-! _law_draw: slots 0:spring 1:many 2:mix 3:found -/
abbrev s_law_draw : Stmt := topS 34
theorem sc_law_draw : FnScope ["spring", "many", "mix", "found"] ["spring", "many"] (defScope s_law_draw) := ⟨rfl, rfl, rfl, by decide +kernel, rfl, by decide +kernel, by decide +kernel⟩
def sp_law_draw : Sp := fun vs H Q _ => ∃ (sp : Addr) (m : Int), vs = [.ref sp, .int m] ∧ Spr H sp ∧ 1 ≤ m ∧ m.natAbs < 2 ^ 8000 ∧ ∀ H' r, But sp H H' → Spr H' sp → 0 ≤ r → r < m → Q (.int r) H'
theorem at30 {α : Type} {x y z : α} : atI [x, y, z] 0 = some x := rfl
theorem at31 {α : Type} {x y z : α} : atI [x, y, z] 1 = some y := rfl
theorem at32 {α : Type} {x y z : α} : atI [x, y, z] 2 = some z := rfl
theorem fdiv_le {d m : Int} (h0 : 0 ≤ d) (h1 : 1 ≤ m) : 0 ≤ d / m ∧ d / m ≤ d := by
  refine ⟨Int.ediv_nonneg h0 (by omega), ?_⟩
  have h := Int.ediv_le_self m h0
  exact h
theorem ok_law_draw (D : Df K mg "_law_draw" s_law_draw) (T : Tx mg) : Has P w K mg base 1 "_law_draw" ["spring", "many"] sp_law_draw := by
  refine has_of D sc_law_draw (fun _ _ _ _ _ _ us hl => match us, hl with | [_, _], _ => rfl) (fun vs H Q E h => ?_) (fun f cdv A outer s₀ H vs Q E hr h => ?_)
  · obtain ⟨a, rs, rfl, _⟩ := h
    rfl
  · obtain ⟨sp, m, rfl, ⟨d, s, c, hs, d0, d1, s0, s1⟩, m1, m2, q⟩ := h
    refine ⟨_, (pss_cons (ps_if (pt_cmpR op_gt (pe_ix ix_list (pv 0) pe_int (fun _ _ => rfl)) pe_int (nomark _)) (pss_cons (ps_set (i := 3) sc_law_draw.nd rfl (by first | exact Or.inl rfl | exact Or.inr rfl) (pe_op op_mod (pe_ix ix_list (pv 0) pe_int (fun _ _ => rfl)) (pv 1)))
    (pss_cons (ps_asg (pe_op op_fdivW (pe_ix ix_list (pv 0) pe_int (fun _ _ => rfl)) (pv 1)) (pg_sub (pv 0) pe_int set_list))
    (pss_one (ps_ret (pv 3))))) pss_nil)
    (pss_cons (ps_asg (pe_op op_add (pe_ix ix_list (pv 0) pe_int (fun _ _ => rfl)) pe_int) (pg_sub (pv 0) pe_int set_list))
    (pss_cons (ps_set (i := 2) sc_law_draw.nd rfl (by first | exact Or.inl rfl | exact Or.inr rfl) (pe_op op_mod (pe_op op_mul (pe_ix ix_list (pv 0) pe_int (fun _ _ => rfl)) (pe_ix ix_list (pv 0) pe_int (fun _ _ => rfl))) pe_int))
    (pss_cons (ps_asg (pe_op op_mod (pe_op op_add (pe_op op_add (pv 2) (pe_op op_mul (pe_op op_mul pe_int (pe_ix ix_list (pv 0) pe_int (fun _ _ => rfl))) (pe_ix ix_list (pv 0) pe_int (fun _ _ => rfl)))) pe_int) pe_int) (pg_sub (pv 0) pe_int set_list))
    (pss_one (ps_ret (pe_op op_mod (pe_op op_fdiv (pe_ix ix_list (pv 0) pe_int (fun _ _ => rfl)) pe_int) (pv 1)))))))), ?_⟩
    refine ⟨_, rfl, sp, _, 0, _, rfl, rfl, .of hs, at30, _, _, rfl, rfl, _, rfl, ?_⟩
    by_cases e : 0 < d
    · refine iteP (decide_eq_true e) ?_
      refine ⟨_, rfl, sp, _, 0, _, rfl, rfl, .of hs, at30, _, rfl, _, _, rfl, rfl, (by omega), ?_⟩
      refine ⟨_, rfl, sp, _, 0, _, rfl, rfl, .of hs, at30, _, rfl, _, _, rfl, rfl, wide_div (by omega) m2 (by decide) (by decide), ?_⟩
      refine ⟨_, rfl, sp, _, 0, 0, rfl, rfl, hs, rfl, _, rfl, q _ _ but_upd ⟨d / m, s, c, upd_same, ?_, ?_, s0, s1⟩ (Int.emod_nonneg _ (by omega)) (Int.emod_lt_of_pos _ (by omega))⟩
      · exact (fdiv_le d0 m1).1
      · have := fdiv_le d0 m1
        exact Nat.lt_of_le_of_lt (by omega) d1
    · refine iteN (decide_eq_false e) ?_
      refine ⟨_, rfl, sp, _, 2, _, rfl, rfl, .of hs, at32, _, _, rfl, rfl, ?_⟩
      refine ⟨_, rfl, sp, _, 2, 2, rfl, rfl, hs, rfl, ?_⟩
      have h2 : (upd H sp (.lst [.int d, .int s, .int (c + 1)])) sp = some (.lst [.int d, .int s, .int (c + 1)]) := upd_same
      refine ⟨_, rfl, sp, _, 1, _, rfl, rfl, .of h2, at31, _, rfl, sp, _, 1, _, rfl, rfl, .of h2, at31, _, _, rfl, rfl, .inl ⟨by omega, by omega⟩, _, _, rfl, rfl, (by show (0 : Int) < 2305843009213693951; decide), ?_⟩
      refine ⟨_, rfl, _, rfl, sp, _, 2, _, rfl, rfl, .of h2, at32, _, _, rfl, rfl, .inl ⟨by decide, by decide⟩, _, rfl, sp, _, 1, _, rfl, rfl, .of h2, at31, _, _, rfl, rfl, .inr ⟨by omega, by omega⟩, _, _, rfl, rfl, _, _, rfl, rfl, _, _, rfl, rfl, (by show (0 : Int) < 2305843009213693951; decide), ?_⟩
      refine ⟨_, rfl, sp, _, 1, 1, rfl, rfl, h2, rfl, ?_⟩
      have h3 : ∀ z : Int, (upd (upd H sp (.lst [.int d, .int s, .int (c + 1)])) sp (.lst [.int d, .int z, .int (c + 1)])) sp = some (.lst [.int d, .int z, .int (c + 1)]) := fun z => upd_same
      refine ⟨_, rfl, sp, _, 1, _, rfl, rfl, .of (h3 _), at31, _, _, rfl, rfl, ⟨by decide, by decide⟩, _, rfl, _, _, rfl, rfl, (by omega), ?_⟩
      refine q _ _ (but_upd.trans but_upd) ⟨d, _, _, h3 _, d0, d1, Int.emod_nonneg _ (by decide), Int.emod_lt_of_pos _ (by decide)⟩ (Int.emod_nonneg _ (by omega)) (Int.emod_lt_of_pos _ (by omega))
end
end UP

set_option Elab.async false
set_option linter.all false
set_option maxRecDepth 100000
set_option maxHeartbeats 4000000
namespace UP
open PySem PySem.Spec PyProof.Rows L2
/-! ### data -/
def dRun (r : Run) : PyData := .tuple [.str r.1, .int r.2]
theorem dp_run {K : PySem.W.Frag} {H : Hp} {v : V} {r : Run} (h : RunV H v r) : Dp K H v (dRun r) := by
  obtain ⟨t, rfl, h⟩ := h
  exact .tup (.of h) (.cons (.str _) (.cons (.int _) .nil))
theorem dp_all {K : PySem.W.Frag} {H : Hp} : ∀ {xs : List V} {rs : List Run}, Paired (RunV H) xs rs → DpAll K H xs (rs.map dRun)
  | _, _, .nil => .nil
  | _, _, .cons h t => .cons (dp_run h) (dp_all t)
theorem KindOk.str {s : Str} (h : KindOk s) : PyData.strOk s = true := by
  unfold PyData.strOk
  rw [Array.all_eq_true']
  intro c hc
  have := h.2.2 c (by simpa using hc)
  exact decide_eq_true (by omega)
theorem can_run {r : Run} (h : KindOk r.1) : (dRun r).canLay0 = true := by
  simp [dRun, PyData.canLay0, PyData.canLayAll0, h.str]
theorem can_runs : ∀ {rs : List Run}, (∀ r ∈ rs, KindOk r.1) → PyData.canLayAll0 (rs.map dRun) = true
  | [], _ => by simp [PyData.canLayAll0]
  | r :: t, h => by
    rw [List.map_cons, PyData.canLayAll0, can_run (h r (List.mem_cons_self ..)), can_runs fun x hx => h x (List.mem_cons_of_mem _ hx)]
    rfl
theorem depth_run (r : Run) : (dRun r).depth ≤ 2 := by
  simp [dRun, PyData.depth, PyData.depthAll]
theorem depth_runs : ∀ (rs : List Run), PyData.depthAll (rs.map dRun) ≤ 2
  | [] => by simp [PyData.depthAll]
  | r :: t => by
    rw [List.map_cons, PyData.depthAll]
    exact Nat.max_le.mpr ⟨depth_run r, depth_runs t⟩
theorem shaped_runs {rs : List Run} (h : ∀ r ∈ rs, KindOk r.1) : SeqAt.shaped (.list (rs.map dRun)) = true := by
  unfold SeqAt.shaped
  rw [PyData.canLay0, can_runs h, PyData.depth]
  have := depth_runs rs
  exact decide_eq_true (by omega)
theorem shaped_run {r : Run} (h : KindOk r.1) : SeqAt.shaped (dRun r) = true := by
  unfold SeqAt.shaped
  rw [can_run h]
  have := depth_run r
  exact decide_eq_true (by omega)
theorem shaped_nil : SeqAt.shaped (.list []) = true := by decide
theorem eqv_nil (rs : List Run) : PyData.eqv (.list (rs.map dRun)) (.list []) = rs.isEmpty := by
  cases rs with
  | nil => simp [PyData.eqv, PyData.eqvAll]
  | cons r t => simp [PyData.eqv, PyData.eqvAll]
theorem sb {sp : Addr} {H H' : Hp} (h : Same H H') : But sp H H' := fun b o _ e => h b o e
theorem But.free {sp : Addr} {H H' : Hp} (b : But sp H H') (z : Spr H' sp) {p : Addr} (h : H' p = none) : H p = none := by
  by_cases e : p = sp
  · subst e
    obtain ⟨_, _, _, h1, _⟩ := z
    rw [h1] at h
    cases h
  · cases q : H p with
    | none => rfl
    | some o =>
      rw [b p o e q] at h
      cases h
theorem Spr.ne {sp p : Addr} {H : Hp} (z : Spr H sp) (h : H p = none) : p ≠ sp := by
  obtain ⟨_, _, _, h1, _⟩ := z
  exact fun e => by rw [e, h1] at h; cases h
instance (s : Str) : Decidable (KindOk s) := by
  unfold KindOk
  infer_instance
section
variable {P : Program} {w : World} {K : PySem.W.Frag} {mg : Str → Option Value} {base : Heap}
/-! _law_spring: slots 0:script 1:digits 2:seed 3:cell -/
abbrev s_law_spring : Stmt := topS 33
theorem sc_law_spring : FnScope ["script", "digits", "seed", "cell"] ["script"] (defScope s_law_spring) := ⟨rfl, rfl, rfl, by decide +kernel, rfl, by decide +kernel, by decide +kernel⟩
def sp_law_spring (K : PySem.W.Frag) : Sp := fun vs H Q _ => ∃ (a : Addr) (ns : List Int), vs = [.ref a] ∧ SqL K H a (ns.map V.int) ∧ ns.length ≤ 63 ∧ ∀ H' p, Same H H' → H p = none → Spr H' p → Q (.ref p) H'
theorem pow60 : (10 : Int) ^ ((60 : Int).toNat) = 1000000000000000000000000000000000000000000000000000000000000 := by decide +kernel
theorem pow200 (i : Nat) : 2 ^ (200 * (i + 1)) = 2 ^ (200 * i) * 1606938044258990275541962092341162602522202993782792835301376 := by
  rw [Nat.mul_add, Nat.pow_add]
theorem spring_step {d x : Int} {i : Nat} (h0 : 0 ≤ d) (h1 : d.natAbs < 2 ^ (200 * i)) : 0 ≤ d * (10 : Int) ^ ((60 : Int).toNat) + x % (10 : Int) ^ ((60 : Int).toNat) ∧ (d * (10 : Int) ^ ((60 : Int).toNat) + x % (10 : Int) ^ ((60 : Int).toNat)).natAbs < 2 ^ (200 * (i + 1)) := by
  rw [pow60, pow200]
  generalize 2 ^ (200 * i) = B at h1 ⊢
  have m0 := Int.emod_nonneg x (show (1000000000000000000000000000000000000000000000000000000000000 : Int) ≠ 0 by decide)
  have m1 := Int.emod_lt_of_pos x (show (0 : Int) < 1000000000000000000000000000000000000000000000000000000000000 by decide)
  generalize x % 1000000000000000000000000000000000000000000000000000000000000 = y at m0 m1 ⊢
  omega
theorem ok_law_spring (D : Df K mg "_law_spring" s_law_spring) (T : Tx mg) : Has P w K mg base 1 "_law_spring" ["script"] (sp_law_spring K) := by
  refine has_of D sc_law_spring (fun _ _ _ _ _ _ us hl => match us, hl with | [_], _ => rfl) (fun vs H Q E h => ?_) (fun f cdv A outer s₀ H vs Q E hr h => ?_)
  · obtain ⟨a, rs, rfl, _⟩ := h
    rfl
  · obtain ⟨a, ns, rfl, hS, l63, q⟩ := h
    refine ⟨_, (pss_cons (ps_set (i := 1) sc_law_spring.nd rfl (by first | exact Or.inl rfl | exact Or.inr rfl) pe_int)
    (pss_cons (ps_set (i := 2) sc_law_spring.nd rfl (by first | exact Or.inl rfl | exact Or.inr rfl) pe_int)
    (pss_cons (ps_for PassesOwn.never rfl (pi_list (pe_slice sl_list (pv 0) po_none (po_some pe_int))) (pg_name (i := 3) sc_law_spring.nd rfl (by first | exact Or.inl rfl | exact Or.inr rfl))
      (C8.pss_cut (ps_if (pt_cmpR op_ge (pe_callB call_abs (by rfl) T.n_abs (by decide +kernel) (pa_cons (pv 3) pa_nil)) (pe_op op_pow pe_int pe_int) (nomark _)) (pss_one (ps_set (i := 1) sc_law_spring.nd rfl (by first | exact Or.inl rfl | exact Or.inr rfl) (pe_op op_add (pe_op op_mulW (pv 1) (pe_op op_pow pe_int pe_int)) (pe_op op_mod (pe_callB call_abs (by rfl) T.n_abs (by decide +kernel) (pa_cons (pv 3) pa_nil)) (pe_op op_pow pe_int pe_int))))) pss_nil)
    (pss_one (ps_set (i := 2) sc_law_spring.nd rfl (by first | exact Or.inl rfl | exact Or.inr rfl) (pe_op op_mod (pe_op op_add (pe_op op_add (pe_op op_mul (pv 2) pe_int) (pe_op op_mod (pv 3) pe_int)) pe_int) pe_int)))))
    (pss_one (ps_ret (pe_lst (pa_cons (pv 1) (pa_cons (pv 2) (pa_cons pe_int pa_nil))))))))), ?_⟩
    refine ⟨_, rfl, _, rfl, a, _, rfl, hS, fun c nc => ?_⟩
    obtain ⟨ms, em, lm⟩ : ∃ ms : List Int, cutV (ns.map V.int) none (some 63) = ms.map V.int ∧ ms.length ≤ 63 := by
      refine ⟨_, by unfold cutV; rw [← List.map_drop, ← List.map_take], ?_⟩
      rw [List.length_take, List.length_drop]
      omega
    rw [em]
    have sc : Same H (upd H c (.lst (ms.map V.int))) := same_upd nc
    refine ⟨c, rfl, ⟨_, .of upd_same⟩, for_list (K := K) (a := c) (xs := ms.map V.int) (fun i σ H' => ∃ d s y3, σ = [some (.ref a), some (.int d), some (.int s), y3] ∧ H' = upd H c (.lst (ms.map V.int)) ∧ 0 ≤ d ∧ d.natAbs < 2 ^ (200 * i) ∧ 0 ≤ s ∧ s < 2305843009213693951)
      ⟨0, 88651, none, rfl, rfl, by decide, by decide, by decide, by decide⟩ (fun i σ H' _ hP => ?_) (fun i x σ H4 ex hP => ?_) (fun σ H4 hP => ?_)⟩
    · obtain ⟨_, _, _, _, rfl, _⟩ := hP
      exact .of upd_same
    · obtain ⟨d, s, y3, rfl, rfl, d0, d1, s0, s1⟩ := hP
      rw [List.getElem?_map] at ex
      cases e : ms[i]? with
      | none =>
        rw [e] at ex
        cases ex
      | some n =>
        rw [e] at ex
        have ex := Option.some.inj ex
        subst ex
        refine ⟨fun σ' H' => ∃ d', σ' = [some (.ref a), some (.int d'), some (.int s), some (.int n)] ∧ H' = upd H c (.lst (ms.map V.int)) ∧ 0 ≤ d' ∧ d'.natAbs < 2 ^ (200 * (i + 1)), ?_, fun σ' H5 hM => ?_⟩
        · refine ⟨_, rfl, n, rfl, _, _, rfl, rfl, ⟨by decide, by decide, by decide⟩, _, _, rfl, rfl, _, rfl, ite2 (fun _ => ?_) (fun _ => ?_)⟩
          · refine ⟨_, rfl, _, _, rfl, rfl, ⟨by decide, by decide, by decide⟩, _, _, rfl, rfl, wide_mul (a := 200 * i + 1) (b := 200) (Nat.lt_of_lt_of_le d1 (Nat.pow_le_pow_right (by decide) (by omega))) (by rw [pow60]; decide) (by omega) (by decide) ?_, ?_⟩
            · have : i < ms.length := (List.getElem?_eq_some_iff.mp e).1
              omega
            · refine ⟨_, rfl, n, rfl, _, _, rfl, rfl, ⟨by decide, by decide, by decide⟩, _, _, rfl, rfl, (by show (0 : Int) < 10 ^ ((60 : Int).toNat); rw [pow60]; decide), _, _, rfl, rfl, ?_⟩
              exact ⟨_, rfl, rfl, (spring_step d0 d1).1, (spring_step d0 d1).2⟩
          · refine ⟨d, rfl, rfl, d0, Nat.lt_of_lt_of_le d1 (Nat.pow_le_pow_right (by decide) (by omega))⟩
        · obtain ⟨d', rfl, rfl, d0', d1'⟩ := hM
          refine ⟨_, rfl, _, _, rfl, rfl, .inr ⟨by decide, by decide⟩, _, rfl, _, _, rfl, rfl, (by show (0 : Int) < 2305843009213693921; decide), _, _, rfl, rfl, _, _, rfl, rfl, _, _, rfl, rfl, (by show (0 : Int) < 2305843009213693951; decide), ?_⟩
          exact ⟨d', _, _, rfl, rfl, d0', d1', Int.emod_nonneg _ (by decide), Int.emod_lt_of_pos _ (by decide)⟩
    · obtain ⟨d, s, y3, rfl, rfl, d0, d1, s0, s1⟩ := hP
      refine ⟨_, rfl, _, rfl, (by show 3 ≤ sizeLine; decide), fun p np => q _ p (sc.trans (same_upd np)) (sc.free np) ⟨d, s, 0, upd_same, d0, Nat.lt_of_lt_of_le d1 (Nat.pow_le_pow_right (by decide) ?_), s0, s1⟩⟩
      rw [List.length_map]
      omega
/-! _law_state: slots 0:spring 1:longest 2:kind -/
abbrev s_law_state : Stmt := topS 37
theorem sc_law_state : FnScope ["spring", "longest", "kind"] ["spring", "longest"] (defScope s_law_state) := ⟨rfl, rfl, rfl, by decide +kernel, rfl, by decide +kernel, by decide +kernel⟩
def sp_law_state : Sp := fun vs H Q _ => ∃ (sp : Addr) (m : Int), vs = [.ref sp, .int m] ∧ Spr H sp ∧ 1 ≤ m ∧ m.natAbs < 2 ^ 8000 ∧ ∀ H' v st, But sp H H' → Spr H' sp → StV H' v st → StOk st → (∀ r, st = some r → r.2 ≤ m) → Q v H'
def nine : List Str := ["a", "b", "c", "ab", "zz", "abcdefgh", "aa", "z", "other"]
theorem nine_ok : ∀ s ∈ nine, KindOk s := by decide +kernel
theorem atI_of {α : Type} {l : List α} {i : Int} {x : α} (h0 : 0 ≤ i) (h : l[i.toNat]? = some x) : atI l i = some x := by
  have e : i = (i.toNat : Int) := by omega
  rw [e]
  exact atI_nat h
theorem ok_law_state (D : Df K mg "_law_state" s_law_state) (T : Tx mg) (G_law_draw : Has P w K mg base 1 "_law_draw" ["spring", "many"] sp_law_draw) : Has P w K mg base 2 "_law_state" ["spring", "longest"] sp_law_state := by
  refine has_of D sc_law_state (fun _ _ _ _ _ _ us hl => match us, hl with | [_, _], _ => rfl) (fun vs H Q E h => ?_) (fun f cdv A outer s₀ H vs Q E hr h => ?_)
  · obtain ⟨a, rs, rfl, _⟩ := h
    rfl
  · obtain ⟨sp, m, rfl, hz, m1, m2, q⟩ := h
    refine ⟨_, (pss_cons (ps_set (i := 2) sc_law_state.nd rfl (by first | exact Or.inl rfl | exact Or.inr rfl) (pe_ix ix_list (pe_lst (pa_cons pe_str (pa_cons pe_str (pa_cons pe_str (pa_cons pe_str (pa_cons pe_str (pa_cons pe_str (pa_cons pe_str (pa_cons pe_str (pa_cons pe_str pa_nil)))))))))) (pe_callH G_law_draw (hr.mono (by omega)) (by rfl) (pa_cons (pv 0) (pa_cons pe_int pa_nil))) (fun _ _ => rfl)))
    (pss_one (ps_ret (pe_ifExp (pt_cmpR op_eq (pe_callH G_law_draw (hr.mono (by omega)) (by rfl) (pa_cons (pv 0) (pa_cons pe_int pa_nil))) pe_int (nomark _)) pe_non (pe_tup (pa_cons (pv 2) (pa_cons (pe_op op_add pe_int (pe_callH G_law_draw (hr.mono (by omega)) (by rfl) (pa_cons (pv 0) (pa_cons (pv 1) pa_nil)))) pa_nil))))))), ?_⟩
    refine ⟨(by show 9 ≤ sizeLine; decide), fun l nl => ?_⟩
    have zl : Spr (upd H l (.lst (nine.map V.str))) sp := hz.same (same_upd nl)
    refine ⟨_, rfl, sp, 9, rfl, zl, by decide, by decide, fun H1 r b1 z1 r0 r1 => ?_⟩
    have nl2 : l ≠ sp := Spr.ne hz nl
    have hl : H1 l = some (.lst (nine.map V.str)) := b1 _ _ nl2 upd_same
    have hr9 : r.toNat < nine.length := by
      show r.toNat < 9
      omega
    have ek : (nine.map V.str)[r.toNat]? = some (.str nine[r.toNat]) := by
      rw [List.getElem?_map, List.getElem?_eq_getElem hr9]
      rfl
    have kk : KindOk nine[r.toNat] := nine_ok _ (List.getElem_mem hr9)
    generalize nine[r.toNat] = kd at ek kk
    refine ⟨l, _, r, _, rfl, rfl, .of hl, atI_of r0 ek, ?_⟩
    have bA : But sp H H1 := (sb (same_upd nl)).trans b1
    refine ⟨_, rfl, sp, 3, rfl, z1, by decide, by decide, fun H2 r2 b2 z2 r20 r21 => ⟨rfl, _, rfl, ?_⟩⟩
    by_cases e : r2 = 0
    · subst e
      exact iteP (decide_eq_true rfl) (q H2 _ none (bA.trans b2) z2 rfl (fun r h => by cases h) (fun r h => by cases h))
    · refine iteN (decide_eq_false fun z => e (V.int.inj z)) ?_
      refine ⟨_, rfl, _, rfl, _, rfl, sp, m, rfl, z2, m1, m2, fun H3 r3 b3 z3 r30 r31 => ⟨_, _, rfl, rfl, (by show 2 ≤ sizeLine; decide), fun t nt => ?_⟩⟩
      refine q _ _ (some (kd, 1 + r3)) ((bA.trans (b2.trans b3)).trans (sb (same_upd nt))) (z3.same (same_upd nt)) ⟨t, rfl, upd_same⟩ (fun r h => ?_) (fun r h => ?_)
      · cases h
        exact ⟨kk, by show 1 ≤ 1 + r3; omega⟩
      · cases h
        show 1 + r3 ≤ m
        omega
end
end UP

set_option Elab.async false
set_option linter.all false
set_option maxRecDepth 100000
set_option maxHeartbeats 4000000
namespace UP
open PySem PySem.Spec PyProof.Rows L2
theorem pe_bmK {X : Cx} {K : PySem.W.Frag} {e : Expr} {c : String} {r : V → List V → Hp → VK → Prop} {to : TE} {t : TA} (h : X.K = K) (p : PE X e (tBM X.K c r to t)) : PE X e (tBM K c r to t) := h ▸ p
theorem if_by {c : TT} {t u : TS} {D : Ends} {σ : L2.St} {H : Hp} (R : Bool → Hp → Prop) (h : ∀ Q' : Bool → Hp → Prop, (∀ b H', R b H' → Q' b H') → c σ H Q') (ht : ∀ H', R true H' → t D σ H') (hu : ∀ H', R false H' → u D σ H') : tIfS c t u D σ H := by
  refine h _ fun b H' r => ?_
  cases b with
  | true => exact iteT (ht H' r)
  | false => exact iteF (hu H' r)
theorem erase_map {α β : Type} (f : α → β) : ∀ (l : List α) (i : Nat), (l.map f).eraseIdx i = (l.eraseIdx i).map f
  | [], _ => rfl
  | x :: t, 0 => rfl
  | x :: t, i + 1 => by
    simp only [List.map_cons, List.eraseIdx_cons_succ]
    rw [erase_map f t i]
def eight : List Str := ["a", "b", "c", "ab", "zz", "abcdefgh", "aa", "z"]
theorem eight_ok : ∀ s ∈ eight, KindOk s := by decide +kernel
theorem alt_snoc {l : List Run} {x : Run} (h : Alt l) (k : ∀ y, l[l.length - 1]? = some y → y.1 ≠ x.1) : Alt (l ++ [x]) := by
  intro i a b ha hb
  by_cases h1 : i + 1 < l.length
  · rw [List.getElem?_append_left (by omega)] at ha
    rw [List.getElem?_append_left h1] at hb
    exact h i a b ha hb
  · by_cases h2 : i + 1 = l.length
    · rw [List.getElem?_append_left (by omega)] at ha
      rw [List.getElem?_append_right (by omega), h2, Nat.sub_self] at hb
      cases hb
      rw [show i = l.length - 1 by omega] at ha
      exact k a ha
    · rw [List.getElem?_append_right (by omega)] at hb
      rw [List.getElem?_eq_none (by simp; omega)] at hb
      cases hb
theorem pow62 {x : Int} (h0 : 0 ≤ x) (h1 : x ≤ 1000000) : -(2 ^ 62) ≤ x ∧ x < 2 ^ 62 := by omega
theorem wide8 {m : Int} (h0 : 0 ≤ m) (h1 : m ≤ 1000000000000000000000000000000000000000000000000000000000000) : m.natAbs < 2 ^ 8000 :=
  Nat.lt_of_lt_of_le (show m.natAbs < 2 ^ 256 by omega) (Nat.pow_le_pow_right (by decide) (by decide))
section
variable {P : Program} {w : World} {K : PySem.W.Frag} {mg : Str → Option Value} {base : Heap}
/-! _law_sequence: slots 0:spring 1:most 2:longest 3:pool 4:kinds 5:found 6:k 7:kind 8:count -/
abbrev s_law_sequence : Stmt := topS 36
theorem sc_law_sequence : FnScope ["spring", "most", "longest", "pool", "kinds", "found", "k", "kind", "count"] ["spring", "most", "longest"] (defScope s_law_sequence) := ⟨rfl, rfl, rfl, by decide +kernel, rfl, by decide +kernel, by decide +kernel⟩
def sp_law_sequence : Sp := fun vs H Q _ => ∃ (sp : Addr) (m g : Int), vs = [.ref sp, .int m, .int g] ∧ Spr H sp ∧ 0 ≤ m ∧ m ≤ 400 ∧ 1 ≤ g ∧ g ≤ 1000000000000000000000000000000 ∧ ∀ H' p rs, But sp H H' → Spr H' sp → H p = none → Runs H' p rs → SeqOk rs → (rs.length : Int) ≤ m → (∀ r ∈ rs, r.2 ≤ g) → Q (.ref p) H'
theorem ok_law_sequence (D : Df K mg "_law_sequence" s_law_sequence) (T : Tx mg) (G_law_draw : Has P w K mg base 1 "_law_draw" ["spring", "many"] sp_law_draw) : Has P w K mg base 2 "_law_sequence" ["spring", "most", "longest"] sp_law_sequence := by
  refine has_of D sc_law_sequence (fun _ _ _ _ _ _ us hl => match us, hl with | [_, _, _], _ => rfl) (fun vs H Q E h => ?_) (fun f cdv A outer s₀ H vs Q E hr h => ?_)
  · obtain ⟨_, _, _, rfl, _⟩ := h
    rfl
  · obtain ⟨sp, m, g, rfl, hz, m0, m4, g1, g2, q⟩ := h
    refine ⟨_, (pss_cons (ps_set (i := 3) sc_law_sequence.nd rfl (by first | exact Or.inl rfl | exact Or.inr rfl) (pe_lst (pa_cons pe_str (pa_cons pe_str (pa_cons pe_str (pa_cons pe_str (pa_cons pe_str (pa_cons pe_str (pa_cons pe_str (pa_cons pe_str pa_nil))))))))))
    (pss_cons (ps_setLc (i := 4) (own := [("k", 6)]) rfl sc_law_sequence.nd rfl rfl (sw_true rfl rfl rfl (by decide +kernel)) (pi_range1 (by rfl) T.n_range (pa_cons (pe_op op_add pe_int (pe_callH G_law_draw (hr.mono (by omega)) (by rfl) (pa_cons (pv 0) (pa_cons pe_int pa_nil)))) pa_nil)) (blkOk_by (N := ["spring", "most", "longest", "pool", "kinds", "found", "k", "kind", "count"]) (sc := defScope s_law_sequence) (by decide +kernel)) (fun _ _ _ _ _ => (pg_name (i := 6) sc_law_sequence.nd rfl (by first | exact Or.inl rfl | exact Or.inr rfl))) (fun _ _ _ _ _ => pts_nil) (fun _ _ _ _ _ => (pe_bmK (K := K) rfl (pe_bm PySem.F.plainAttrs_list PySem.F.slot_list_pop PySem.F.type_list_pop mt_popAt (pv 3) (pa_cons (pe_callH G_law_draw (hr.mono (by omega)) (by rfl) (pa_cons (pv 0) (pa_cons (pe_callB (call_len_seqK (K := K) rfl) (by rfl) T.n_len (by decide +kernel) (pa_cons (pv 3) pa_nil)) pa_nil))) pa_nil)))))
    (pss_cons (ps_set (i := 5) sc_law_sequence.nd rfl (by first | exact Or.inl rfl | exact Or.inr rfl) (pe_lst pa_nil))
    (pss_cons (ps_for PassesOwn.never rfl (pi_range1 (by rfl) T.n_range (pa_cons (pe_callH G_law_draw (hr.mono (by omega)) (by rfl) (pa_cons (pv 0) (pa_cons (pe_op op_add (pv 1) pe_int) pa_nil))) pa_nil)) (pg_name (i := 6) sc_law_sequence.nd rfl (by first | exact Or.inl rfl | exact Or.inr rfl))
      (pss_cons (ps_par (i := 7) (j := 8) (by rfl) sc_law_sequence.nd rfl rfl (by decide) rfl rfl (pa_cons (pe_ix ix_list (pv 4) (pe_callH G_law_draw (hr.mono (by omega)) (by rfl) (pa_cons (pv 0) (pa_cons (pe_callB call_len_seq (by rfl) T.n_len (by decide +kernel) (pa_cons (pv 4) pa_nil)) pa_nil))) (fun _ _ => rfl)) (pa_cons (pe_op op_add pe_int (pe_callH G_law_draw (hr.mono (by omega)) (by rfl) (pa_cons (pv 0) (pa_cons (pv 2) pa_nil)))) pa_nil)) (by rfl))
    (pss_one (ps_if (PW.pt (pw_or (pt_cmpR (op_eqD hr.units) (pv 5) (pe_lst pa_nil) (nomark _)) (pw_or1 (pt_cmpR op_ne (pe_ix ix_tup (pe_ix ix_list (pv 5) (pe_un un_neg pe_int) (fun _ _ => rfl)) pe_int (fun _ _ => rfl)) (pv 7) (nomark _))))) (pss_one (ps_expr (pe_bm PySem.F.plainAttrs_list PySem.F.slot_list_append PySem.F.type_list_append mt_append (pv 5) (pa_cons (pe_tup (pa_cons (pv 7) (pa_cons (pv 8) pa_nil))) pa_nil)))) pss_nil))))
    (pss_one (ps_ret (pv 5))))))), ?_⟩
    refine ⟨(by show 8 ≤ sizeLine; decide), fun pl npl => ?_⟩
    have z1 : Spr (upd H pl (.lst (eight.map V.str))) sp := hz.same (same_upd npl)
    have n1 : pl ≠ sp := Spr.ne hz npl
    refine ⟨_, rfl, sp, 5, rfl, z1, by decide, by decide, fun H2 r2 b2 z2 r20 r21 => ?_⟩
    have hp2 : H2 pl = some (.lst (eight.map V.str)) := b2 _ _ n1 upd_same
    have B2 : But sp H H2 := (sb (same_upd npl)).trans b2
    refine ⟨_, _, rfl, rfl, 1 + r2, rfl, by omega, by omega, fun L nL => ?_⟩
    have nLs : L ≠ sp := Spr.ne z2 nL
    have nLp : L ≠ pl := fun e => by rw [e, hp2] at nL; cases nL
    have nLH : H L = none := B2.free z2 nL
    refine lc_range (lo := 0) (n := (1 + r2).toNat) (fun i H' => ∃ ps ks : List Str, But sp H H' ∧ Spr H' sp ∧ H' pl = some (.lst (ps.map V.str)) ∧ ps.length + i = 8 ∧ (∀ s ∈ ps, KindOk s) ∧ H' L = some (.lst (ks.map V.str)) ∧ ks.length = i ∧ (∀ s ∈ ks, KindOk s))
      ⟨eight, [], B2.trans (sb (same_upd nL)), z2.same (same_upd nL), by rw [upd_ne nLp.symm]; exact hp2, rfl, eight_ok, upd_same, rfl, fun s h => by cases h⟩ (fun i H3 hi hP => ?_) (fun H3 hP => ?_)
    · obtain ⟨ps, ks, b3, z3, hpl, lp, okp, hL, lk, okk⟩ := hP
      refine ⟨rfl, yesT ⟨_, rfl, .inl ⟨rfl, _, SqL.of hpl⟩, _, rfl, _, rfl, pl, _, rfl, .inl (.of hpl), sp, _, rfl, z3, ?_, ?_, fun H4 r4 b4 z4 r40 r41 => ?_⟩⟩
      · rw [List.length_map]
        omega
      · rw [List.length_map]
        exact wide8 (by omega) (by omega)
      · rw [List.length_map] at r41
        have lt : r4.toNat < ps.length := by omega
        have h4 : H4 pl = some (.lst (ps.map V.str)) := b4 _ _ n1 hpl
        have hL4 : H4 L = some (.lst (ks.map V.str)) := b4 _ _ nLs hL
        have ek : (ps.map V.str)[r4.toNat]? = some (.str ps[r4.toNat]) := by
          rw [List.getElem?_map, List.getElem?_eq_getElem lt]
          rfl
        have ix : seqIndex? r4 (ps.map V.str).length = some r4.toNat := by
          unfold seqIndex?
          rw [List.length_map]
          have e1 : ¬ r4 < 0 := by omega
          simp only [e1, if_false]
          rw [if_pos]
          simp
          omega
        refine ⟨pl, _, r4, r4.toNat, _, rfl, rfl, h4, by omega, by omega, ix, ek, ks.map V.str, ?_, ?_, ps.eraseIdx r4.toNat, ks ++ [ps[r4.toNat]], ?_, ?_, ?_, ?_, ?_, ?_, ?_, ?_⟩
        · rw [upd_ne nLp]
          exact hL4
        · rw [List.length_map]
          exact small (by omega)
        · intro b o nb eb
          have e1 : b ≠ L := ne_of_none eb nLH
          have e2 : b ≠ pl := ne_of_none eb npl
          rw [upd_ne e1, upd_ne e2]
          exact b4 b o nb (b3 b o nb eb)
        · obtain ⟨d, s, c, hs, rest⟩ := z4
          refine ⟨d, s, c, ?_, rest⟩
          rw [upd_ne nLs.symm, upd_ne n1.symm]
          exact hs
        · rw [upd_ne nLp.symm, upd_same, erase_map]
        · rw [List.length_eraseIdx_of_lt lt]
          omega
        · intro s hs
          exact okp s (List.mem_of_mem_eraseIdx hs)
        · rw [upd_same, List.map_append]
          rfl
        · rw [List.length_append, lk]
          rfl
        · intro s hs
          rcases List.mem_append.mp hs with h | h
          · exact okk s h
          · rw [List.mem_singleton.mp h]
            exact okp _ (List.getElem_mem lt)
    · obtain ⟨ps, ks, b3, z3, hpl, lp, okp, hL, lk, okk⟩ := hP
      refine ⟨Nat.zero_le _, fun p np => ?_⟩
      have npH : H p = none := b3.free z3 np
      have nps : p ≠ sp := Spr.ne z3 np
      have npL : p ≠ L := fun e => by rw [e, hL] at np; cases np
      refine ⟨_, rfl, _, rfl, _, _, rfl, rfl, sp, _, rfl, z3.same (same_upd np), (by show 1 ≤ m + 1; omega), (wide8 (by show 0 ≤ m + 1; omega) (by show m + 1 ≤ _; omega)), fun H5 r5 b5 z5 r50 r51 => ?_⟩
      have r51 : r5 < m + 1 := r51
      refine ⟨r5, rfl, by omega, by omega, for_range (lo := 0) (n := r5.toNat) (fun i σ H' => ∃ y6 y7 y8 rs, σ = [some (.ref sp), some (.int m), some (.int g), some (.ref pl), some (.ref L), some (.ref p), y6, y7, y8] ∧ But sp H H' ∧ Spr H' sp ∧ H' L = some (.lst (ks.map V.str)) ∧ Runs H' p rs ∧ rs.length ≤ i ∧ (∀ r ∈ rs, RunOk r ∧ r.2 ≤ g) ∧ Alt rs)
        ⟨none, none, none, [], rfl, (b3.trans (sb (same_upd np))).trans b5, z5, b5 _ _ nLs (same_upd np _ _ hL), ⟨[], b5 _ _ nps upd_same, .nil⟩, Nat.zero_le _, (fun r h => by cases h), (fun i x y h => by simp at h)⟩ (fun i σ H6 hi hP => ?_) (fun σ H6 hP => ?_)⟩
      · obtain ⟨y6, y7, y8, rs, rfl, b6, z6, hL6, hR, lr, okr, alt⟩ := hP
        refine ⟨_, rfl, _, rfl, _, rfl, L, _, rfl, .inl (.of hL6), sp, _, rfl, z6, ?_, ?_, fun H7 r7 b7 z7 r70 r71 => ?_⟩
        · rw [List.length_map]
          omega
        · rw [List.length_map]
          exact wide8 (by omega) (by omega)
        rw [List.length_map] at r71
        have lt : r7.toNat < ks.length := by omega
        have hL7 : H7 L = some (.lst (ks.map V.str)) := b7 _ _ nLs hL6
        have ek : (ks.map V.str)[r7.toNat]? = some (.str ks[r7.toNat]) := by
          rw [List.getElem?_map, List.getElem?_eq_getElem lt]
          rfl
        have kk : KindOk ks[r7.toNat] := okk _ (List.getElem_mem lt)
        generalize ks[r7.toNat] = kd at ek kk
        refine ⟨L, _, r7, _, rfl, rfl, .of hL7, atI_of r70 ek, ?_⟩
        refine ⟨_, rfl, _, rfl, sp, g, rfl, z7, g1, wide8 (by omega) (by omega), fun H8 r8 b8 z8 r80 r81 => ⟨_, _, rfl, rfl, _, _, rfl, ?_⟩⟩
        have B8 := b6.trans (b7.trans b8)
        have hL8 : H8 L = some (.lst (ks.map V.str)) := b8 _ _ nLs hL7
        have hR8 : Runs H8 p rs := (hR.but z6 b7).but z7 b8
        have okR : ∀ r ∈ rs, KindOk r.1 := fun r h => (okr r h).1.1
        clear b7 b8 hL7 hR hL6 b6 z6 z7
        obtain ⟨xs, hx, hpr⟩ := hR8
        have lx : xs.length = rs.length := Paired.len hpr
        dsimp only
        refine if_by (fun b H9 => Same H8 H9 ∧ (b = true → ∀ y, rs[rs.length - 1]? = some y → y.1 ≠ kd)) (fun Q' k => ?_) (fun H9 hq => ?_) (fun H9 hq => ?_)
        · refine ⟨_, rfl, Nat.zero_le _, fun e ne => ?_⟩
          have se : Same H8 (upd H8 e (.lst [])) := same_upd ne
          refine ⟨.list (rs.map dRun), .list [], .lst (.of (se _ _ hx)) (dp_all (prs_same se hpr)), .lst (.of upd_same) .nil, shaped_runs okR, shaped_nil, _, rfl, ?_⟩
          rw [eqv_nil]
          cases hrs : rs with
          | nil => exact iteP rfl (k _ _ ⟨se, fun _ y hy => by rw [hrs] at hy; cases hy⟩)
          | cons r0 t0 =>
            refine iteN rfl ?_
            have hne : rs ≠ [] := by rw [hrs]; intro z; cases z
            have hlt : rs.length - 1 < rs.length := by
              have : 0 < rs.length := by rw [hrs]; exact Nat.succ_pos _
              omega
            obtain ⟨x, ex, hxv⟩ := Paired.at' hpr (List.getElem?_eq_getElem hlt)
            obtain ⟨tt, rfl, htt⟩ := RunV.same se hxv
            have exl : atI xs (-1) = some (.ref tt) := by
              have h1 : xs ≠ [] := fun z => by rw [z] at lx; rw [hrs] at lx; cases lx
              have h2 : xs = xs.dropLast ++ [xs.getLast h1] := (List.dropLast_concat_getLast h1).symm
              have h3 : xs.getLast h1 = .ref tt := by
                have := List.getLast?_eq_getElem? (l := xs)
                rw [lx, ex, List.getLast?_eq_some_getLast h1] at this
                exact Option.some.inj this
              rw [h2, h3]
              exact atI_last _ _
            refine ⟨_, rfl, 1, rfl, p, xs, -1, _, rfl, rfl, .of (se _ _ hx), exl, tt, _, 0, _, rfl, rfl, .of htt, at0, _, rfl, rfl, _, rfl, ?_⟩
            refine k _ _ ⟨se, fun hb y hy => ?_⟩
            rw [List.getElem?_eq_getElem hlt] at hy
            cases hy
            intro z
            rw [z] at hb
            simp at hb
        · obtain ⟨s9, ha⟩ := hq
          refine ⟨_, rfl, .inl ⟨rfl, _, SqL.of (s9 _ _ hx)⟩, _, rfl, _, rfl, (by show 2 ≤ sizeLine; decide), fun n nn => ⟨p, _, _, rfl, rfl, same_upd nn _ _ (s9 _ _ hx), small (by omega), ?_⟩⟩
          have sn := s9.trans (same_upd (o := .tup [.str kd, .int (1 + r8)]) nn)
          refine ⟨_, _, _, rs ++ [(kd, 1 + r8)], rfl, ?_, ?_, ?_, ⟨_, upd_same, Paired.app (prs_grow (sn _ _ hx) (prs_same sn hpr)) (.cons (RunV.grow (sn _ _ hx) ⟨n, rfl, upd_same⟩) .nil)⟩, ?_, ?_, alt_snoc alt (ha rfl)⟩
          · intro b o nb eb
            rw [upd_ne (ne_of_none eb npH)]
            exact sn b o (B8 b o nb eb)
          · obtain ⟨d, s, c, hs, rest⟩ := z8.same sn
            refine ⟨d, s, c, ?_, rest⟩
            rw [upd_ne nps.symm]
            exact hs
          · rw [upd_ne npL.symm]
            exact sn _ _ hL8
          · rw [List.length_append]
            show rs.length + 1 ≤ i + 1
            omega
          · intro r hr
            rcases List.mem_append.mp hr with h | h
            · exact okr r h
            · rw [List.mem_singleton.mp h]
              exact ⟨⟨kk, by show 1 ≤ 1 + r8; omega, by show 1 + r8 ≤ _; omega⟩, by show 1 + r8 ≤ g; omega⟩
        · obtain ⟨s9, ha⟩ := hq
          exact ⟨_, _, _, rs, rfl, fun b o nb eb => s9 b o (B8 b o nb eb), z8.same s9, s9 _ _ hL8, ⟨xs, s9 _ _ hx, prs_same s9 hpr⟩, by omega, okr, alt⟩
      · obtain ⟨y6, y7, y8, rs, rfl, b6, z6, hL6, hR, lr, okr, alt⟩ := hP
        exact ⟨_, rfl, q H6 p rs b6 z6 npH hR ⟨by omega, fun r h => (okr r h).1, alt⟩ (by omega) (fun r h => (okr r h).2)⟩
end
end UP

set_option Elab.async false
set_option linter.all false
set_option maxRecDepth 100000
set_option maxHeartbeats 4000000
namespace UP
open PySem PySem.Spec PyProof.Rows L2
def scR (t : Int) (rs : List Run) : List Run := rs.map fun r => (r.1, r.2 * t)
def toldR (ws : List Run) : Option Run := match ws with
  | [] => none
  | r :: _ => some (r.1, (ws.length : Int))
def repR (k : Str) (n : Int) : Option Run := if n = 0 then none else some (k, n)
theorem repR_zero (k : Str) : repR k 0 = none := if_pos rfl
theorem repR_pos {k : Str} {n : Int} (h : 0 < n) : repR k n = some (k, n) := if_neg (by omega)
def PosO (st : Option Run) : Prop := ∀ r, st = some r → 1 ≤ r.2
theorem stepR_pos {st : Option Run} {k : Str} {c : Int} (h : PosO st) (hc : 1 ≤ c) : PosO (stepR st k c) := by
  intro r e
  cases st with
  | none =>
    cases e
    exact hc
  | some x =>
    have hx := h x rfl
    have e : (if x.1 = k then some (k, x.2 + c) else if 0 < x.2 - c then some (x.1, x.2 - c) else if x.2 - c = 0 then none else some (k, -(x.2 - c))) = some r := e
    by_cases h1 : x.1 = k
    · rw [if_pos h1] at e
      cases e
      show 1 ≤ x.2 + c
      omega
    · rw [if_neg h1] at e
      by_cases h2 : 0 < x.2 - c
      · rw [if_pos h2] at e
        cases e
        show 1 ≤ x.2 - c
        omega
      · rw [if_neg h2] at e
        by_cases h3 : x.2 - c = 0
        · rw [if_pos h3] at e
          cases e
        · rw [if_neg h3] at e
          cases e
          show 1 ≤ -(x.2 - c)
          omega
theorem stR_cons (r : Run) (l : List Run) (st : Option Run) : stR (r :: l) st = stR l (stepR st r.1 r.2) := rfl
theorem stR_pos : ∀ {rs : List Run} {st : Option Run}, PosO st → (∀ r ∈ rs, 1 ≤ r.2) → PosO (stR rs st)
  | [], _, h, _ => h
  | r :: t, st, h, k => by
    rw [stR_cons]
    exact stR_pos (stepR_pos h (k r (List.mem_cons_self ..))) fun x hx => k x (List.mem_cons_of_mem _ hx)
theorem StOk.pos {st : Option Run} (h : StOk st) : PosO st := fun r e => (h r e).2
section
variable {P : Program} {w : World} {K : PySem.W.Frag} {mg : Str → Option Value} {base : Heap}
/-! _law_scaled: slots 0:sequence 1:times 2:kind 3:count -/
abbrev s_law_scaled : Stmt := topS 41
theorem sc_law_scaled : FnScope ["sequence", "times", "kind", "count"] ["sequence", "times"] (defScope s_law_scaled) := ⟨rfl, rfl, rfl, by decide +kernel, rfl, by decide +kernel, by decide +kernel⟩
def sp_law_scaled : Sp := fun vs H Q _ => ∃ (a : Addr) (rs : List Run) (t : Int), vs = [.ref a, .int t] ∧ Runs H a rs ∧ rs.length ≤ 1000 ∧ (∀ r ∈ rs, 1 ≤ r.2 ∧ r.2 ≤ 1000) ∧ ∀ H' p, Same H H' → H p = none → Runs H' p (scR t rs) → Q (.ref p) H'
theorem ok_law_scaled (D : Df K mg "_law_scaled" s_law_scaled) : Has P w K mg base 1 "_law_scaled" ["sequence", "times"] sp_law_scaled := by
  refine has_of D sc_law_scaled (fun _ _ _ _ _ _ us hl => match us, hl with | [_, _], _ => rfl) (fun vs H Q E h => ?_) (fun f cdv A outer s H vs Q E hr h => ?_)
  · obtain ⟨_, _, _, rfl, _⟩ := h
    rfl
  · obtain ⟨a, rs, tm, rfl, ⟨xs, hx, hp⟩, l4, ok, q⟩ := h
    have lx : xs.length = rs.length := Paired.len hp
    refine ⟨_, (pss_one (ps_ret (pe_lc (own := [("kind", 2), ("count", 3)]) rfl sc_law_scaled.nd (pi_list (pv 0)) (blkOk_by (N := ["sequence", "times", "kind", "count"]) (sc := defScope s_law_scaled) (by decide +kernel)) (fun _ _ _ _ _ => (pg_tupK (K := K) (n := 2) rfl rfl (pgs_cons (pg_name (i := 2) sc_law_scaled.nd rfl (by first | exact Or.inl rfl | exact Or.inr rfl)) (pgs_cons (pg_name (i := 3) sc_law_scaled.nd rfl (by first | exact Or.inl rfl | exact Or.inr rfl)) pgs_nil)))) (fun _ _ _ _ _ => pts_nil) (fun _ _ _ _ _ => (pe_tup (pa_cons (pv 2) (pa_cons (pe_op op_mul (pv 3) (pv 1)) pa_nil))))))), ?_⟩
    refine ⟨_, rfl, a, rfl, ⟨xs, .of hx⟩, fun L nL => lc_list (K := K) (a := a) (xs := xs) (fun i H' => Same H H' ∧ ∃ ys, H' L = some (.lst ys) ∧ Paired (RunV H') ys (scR tm (rs.take i))) ⟨same_upd nL, [], upd_same, .nil⟩ (fun i H' _ p => .of (p.1 _ _ hx)) (fun i x H2 ex p => ?_) (fun H2 p => ?_)⟩
    · obtain ⟨sm, ys, hL, hy⟩ := p
      obtain ⟨r, er, hr1⟩ := Paired.at hp ex
      obtain ⟨t, rfl, ht⟩ := RunV.same sm hr1
      have hi : i < xs.length := (List.getElem?_eq_some_iff.mp ex).1
      have bd := ok r (List.mem_of_getElem? er)
      refine ⟨t, _, rfl, .of ht, rfl, _, _, rfl, _, _, rfl, rfl, rfl, yesT ⟨_, rfl, _, rfl, _, rfl, _, _, rfl, rfl, .inl ⟨by omega, by omega⟩, (by show 2 ≤ sizeLine; decide), fun n nn => ⟨_, same_upd nn _ _ hL, ?_, same_grow nL (sm.trans (same_upd nn)), _, upd_same, ?_⟩⟩⟩
      · have := Paired.len hy
        unfold scR at this
        rw [List.length_map, List.length_take] at this
        exact small (by omega)
      · rw [take_snoc er]
        unfold scR at hy ⊢
        rw [List.map_append]
        exact Paired.app (prs_grow (same_upd nn _ _ hL) (prs_same (same_upd nn) hy)) (.cons (RunV.grow (same_upd nn _ _ hL) ⟨n, rfl, upd_same⟩) .nil)
    · obtain ⟨sm, ys, hL, hy⟩ := p
      rw [lx, List.take_length] at hy
      exact q H2 L sm nL ⟨ys, hL, hy⟩
/-! _law_told: slots 0:waiting -/
abbrev s_law_told : Stmt := topS 40
theorem sc_law_told : FnScope ["waiting"] ["waiting"] (defScope s_law_told) := ⟨rfl, rfl, rfl, by decide +kernel, rfl, by decide +kernel, by decide +kernel⟩
def sp_law_told : Sp := fun vs H Q _ => ∃ (a : Addr) (ws : List Run), vs = [.ref a] ∧ Runs H a ws ∧ (∀ r ∈ ws, KindOk r.1) ∧ ∀ H' v, Same H H' → StV H' v (toldR ws) → Q v H'
theorem ok_law_told (D : Df K mg "_law_told" s_law_told) (T : Tx mg) : Has P w K mg base 1 "_law_told" ["waiting"] sp_law_told := by
  refine has_of D sc_law_told (fun _ _ _ _ _ _ us hl => match us, hl with | [_], _ => rfl) (fun vs H Q E h => ?_) (fun f cdv A outer s H vs Q E hr h => ?_)
  · obtain ⟨_, _, rfl, _⟩ := h
    rfl
  · obtain ⟨a, ws, rfl, ⟨xs, hx, hp⟩, ok, q⟩ := h
    have lx : xs.length = ws.length := Paired.len hp
    refine ⟨_, (pss_one (ps_ret (pe_ifExp (pt_cmpR (op_eqD hr.units) (pv 0) (pe_lst pa_nil) (nomark _)) pe_non (pe_tup (pa_cons (pe_ix ix_tup (pe_ix ix_list (pv 0) pe_int (fun _ _ => rfl)) pe_int (fun _ _ => rfl)) (pa_cons (pe_callB call_len_seq (by rfl) T.n_len (by decide +kernel) (pa_cons (pv 0) pa_nil)) pa_nil)))))), ?_⟩
    refine ⟨_, rfl, Nat.zero_le _, fun e ne => ?_⟩
    have se : Same H (upd H e (.lst [])) := same_upd ne
    refine ⟨.list (ws.map dRun), .list [], .lst (.of (se _ _ hx)) (dp_all (prs_same se hp)), .lst (.of upd_same) .nil, shaped_runs ok, shaped_nil, _, rfl, ?_⟩
    rw [eqv_nil]
    cases ws with
    | nil => exact iteP rfl (q _ _ se rfl)
    | cons r0 t0 =>
      cases hp with
      | cons h0 h1 =>
        obtain ⟨t, rfl, ht⟩ := RunV.same se h0
        refine iteN rfl ⟨_, rfl, a, _, 0, _, rfl, rfl, .of (se _ _ hx), atI_nat (j := 0) rfl, t, _, 0, _, rfl, rfl, .of ht, at0, _, rfl, a, _, rfl, .inl (.of (se _ _ hx)), (by show 2 ≤ sizeLine; decide), fun n nn => q _ _ (se.trans (same_upd nn)) ⟨n, rfl, ?_⟩⟩
        rw [upd_same, lx]
end
end UP

set_option Elab.async false
set_option linter.all false
set_option maxRecDepth 100000
set_option maxHeartbeats 4000000
namespace UP
open PySem PySem.Spec PyProof.Rows L2
/-! ### plain data, by depth -/
def Dsc (v : V) (d : PyData) : Prop := (v = .non ∧ d = .none) ∨ (∃ b, v = .bl b ∧ d = .bool b) ∨ (∃ i, v = .int i ∧ d = .int i) ∨ ∃ s, v = .str s ∧ d = .str s
def Dt (H : Hp) : Nat → V → PyData → Prop
  | 0, v, d => Dsc v d
  | n + 1, v, d => Dsc v d ∨ (∃ a xs ds, v = .ref a ∧ H a = some (.lst xs) ∧ d = .list ds ∧ Paired (Dt H n) xs ds ∧ ds.length ≤ 100000) ∨ ∃ a xs ds, v = .ref a ∧ H a = some (.tup xs) ∧ d = .tuple ds ∧ Paired (Dt H n) xs ds ∧ ds.length ≤ 100000
theorem Dt.same {H H' : Hp} (s : Same H H') : ∀ {n : Nat} {v : V} {d : PyData}, Dt H n v d → Dt H' n v d
  | 0, _, _, h => h
  | n + 1, v, d, h => by
    rcases h with h | ⟨a, xs, ds, e, h, e2, p, l⟩ | ⟨a, xs, ds, e, h, e2, p, l⟩
    · exact .inl h
    · exact .inr (.inl ⟨a, xs, ds, e, s _ _ h, e2, Paired.imp (fun _ _ z => Dt.same s z) p, l⟩)
    · exact .inr (.inr ⟨a, xs, ds, e, s _ _ h, e2, Paired.imp (fun _ _ z => Dt.same s z) p, l⟩)
theorem dsc_ref {a : Addr} {d : PyData} (h : Dsc (.ref a) d) : False := by
  rcases h with ⟨h, _⟩ | ⟨_, h, _⟩ | ⟨_, h, _⟩ | ⟨_, h, _⟩ <;> cases h
theorem dsc_lst {v : V} {ds : List PyData} (h : Dsc v (.list ds)) : False := by
  rcases h with ⟨_, h⟩ | ⟨_, _, h⟩ | ⟨_, _, h⟩ | ⟨_, _, h⟩ <;> cases h
theorem dsc_tup {v : V} {ds : List PyData} (h : Dsc v (.tuple ds)) : False := by
  rcases h with ⟨_, h⟩ | ⟨_, _, h⟩ | ⟨_, _, h⟩ | ⟨_, _, h⟩ <;> cases h
theorem dsc_one {v v' : V} {d : PyData} (h : Dsc v d) (h' : Dsc v' d) : v = v' := by
  rcases h with ⟨e, z⟩ | ⟨x, e, z⟩ | ⟨x, e, z⟩ | ⟨x, e, z⟩ <;> subst z <;> rcases h' with ⟨e', z⟩ | ⟨y, e', z⟩ | ⟨y, e', z⟩ | ⟨y, e', z⟩ <;> cases z <;> rw [e, e']
theorem kit_no {K : PySem.W.Frag} {c : String} (h1 : kitB c "list" = some false) (h2 : kitB c "tuple" = some false) : PySem.W.kitAny K (.type c) [.type "list", .type "tuple"] = some false :=
  kitAny_cons (b := false) (kit_ty h1) (fun _ => kitAny_cons (b := false) (kit_ty h2) (fun _ => rfl) (fun z => nomatch z)) (fun z => nomatch z)
theorem ixL {K : PySem.W.Frag} {x y : V} {H : Hp} {Q : VK} (h : rIxL K x y H Q) : rIx K x y H Q := .inl h
theorem ixT {K : PySem.W.Frag} {x y : V} {H : Hp} {Q : VK} (h : rIxT K x y H Q) : rIx K x y H Q := .inr (.inl h)
section
variable {P : Program} {w : World} {K : PySem.W.Frag} {mg : Str → Option Value} {base : Heap}
/-! _law_same: slots 0:found 1:due 2:k -/
abbrev s_law_same : Stmt := topS 35
theorem sc_law_same : FnScope ["found", "due", "k"] ["found", "due"] (defScope s_law_same) := ⟨rfl, rfl, rfl, by decide +kernel, rfl, by decide +kernel, by decide +kernel⟩
def sp_law_same (n : Nat) : Sp := fun vs H Q _ => ∃ v v' d, vs = [v, v'] ∧ Dt H n v d ∧ Dt H n v' d ∧ ∀ H', Same H H' → Q (.bl true) H'
def sp_none : Sp := fun _ _ _ _ => False
def sp_pre : Nat → Sp
  | 0 => sp_none
  | n + 1 => sp_law_same n
theorem none_law_same (D : Df K mg "_law_same" s_law_same) : Has P w K mg base 1 "_law_same" ["found", "due"] sp_none :=
  has_of D sc_law_same (fun _ _ _ _ _ _ us hl => match us, hl with | [_, _], _ => rfl) (fun _ _ _ _ h => h.elim) (fun _ _ _ _ _ _ _ _ _ _ h => h.elim)
theorem call_of {n : Nat} {vs : List V} {H : Hp} {Q : VK} {E : XK} (h : sp_law_same n vs H Q E) : sp_pre (n + 1) vs H Q E := h
theorem step_law_same (D : Df K mg "_law_same" s_law_same) (T : Tx mg) (m : Nat) (G_law_same : Has P w K mg base (m + 1) "_law_same" ["found", "due"] (sp_pre m)) : Has P w K mg base (m + 2) "_law_same" ["found", "due"] (sp_law_same m) := by
  refine has_of D sc_law_same (fun _ _ _ _ _ _ us hl => match us, hl with | [_, _], _ => rfl) (fun vs H Q E h => ?_) (fun f cdv A outer s H vs Q E hr h => ?_)
  · obtain ⟨_, _, _, rfl, _⟩ := h
    rfl
  · obtain ⟨v, v', d, rfl, h1, h2, q⟩ := h
    refine ⟨_, (pss_cons (ps_if (pt_val (pe_callB call_isiT (by rfl) T.n_isinstance (by decide +kernel) (pa_cons (pv 1) (pa_cons (pe_tup (pa_cons (pe_bltn (v := .ty "list") (by rfl) T.n_list (by decide +kernel) rfl) (pa_cons (pe_bltn (v := .ty "tuple") (by rfl) T.n_tuple (by decide +kernel) rfl) pa_nil))) pa_nil)))) (pss_cons (ps_if (PW.pt (pw_or (pt_cmpR op_ne (pe_callB call_isi (by rfl) T.n_isinstance (by decide +kernel) (pa_cons (pv 0) (pa_cons (pe_bltn (v := .ty "list") (by rfl) T.n_list (by decide +kernel) rfl) pa_nil))) (pe_callB call_isi (by rfl) T.n_isinstance (by decide +kernel) (pa_cons (pv 1) (pa_cons (pe_bltn (v := .ty "list") (by rfl) T.n_list (by decide +kernel) rfl) pa_nil))) (nomark _)) (pw_or1 (pt_cmpR op_ne (pe_callB call_isi (by rfl) T.n_isinstance (by decide +kernel) (pa_cons (pv 0) (pa_cons (pe_bltn (v := .ty "tuple") (by rfl) T.n_tuple (by decide +kernel) rfl) pa_nil))) (pe_callB call_isi (by rfl) T.n_isinstance (by decide +kernel) (pa_cons (pv 1) (pa_cons (pe_bltn (v := .ty "tuple") (by rfl) T.n_tuple (by decide +kernel) rfl) pa_nil))) (nomark _))))) (pss_one (ps_ret pe_bl)) pss_nil)
    (pss_one (ps_ret (pe_and (pe_cmpR op_eq (pe_callB call_len_seq (by rfl) T.n_len (by decide +kernel) (pa_cons (pv 0) pa_nil)) (pe_callB call_len_seq (by rfl) T.n_len (by decide +kernel) (pa_cons (pv 1) pa_nil)) (nomark _)) (pe_one (pe_callB (cr_all rfl) (by rfl) T.n_all (by decide +kernel) (pa_cons (pe_lc (own := [("k", 2)]) rfl sc_law_same.nd (pi_range1 (by rfl) T.n_range (pa_cons (pe_callB call_len_seq (by rfl) T.n_len (by decide +kernel) (pa_cons (pv 1) pa_nil)) pa_nil)) (blkOk_by (N := ["found", "due", "k"]) (sc := defScope s_law_same) (by decide +kernel)) (fun _ _ _ _ _ => (pg_name (i := 2) sc_law_same.nd rfl (by first | exact Or.inl rfl | exact Or.inr rfl))) (fun _ _ _ _ _ => pts_nil) (fun _ _ _ _ _ => (pe_callH G_law_same (hr.mono (by omega)) (by rfl) (pa_cons (pe_ix (ix_seqK (K := K) rfl) (pv 0) (pv 2) (fun _ _ => rfl)) (pa_cons (pe_ix (ix_seqK (K := K) rfl) (pv 1) (pv 2) (fun _ _ => rfl)) pa_nil))))) pa_nil))))))) pss_nil)
    (pss_cons (ps_if (PW.pt (pw_or (pt_cmpR op_isN (pv 1) pe_non (nomark _)) (pw_or1 (pt_cmpR op_isN (pv 0) pe_non (nomark _))))) (pss_one (ps_ret (pe_and (pe_cmpR op_isN (pv 1) pe_non (nomark _)) (pe_one (pe_cmpR op_isN (pv 0) pe_non (nomark _)))))) pss_nil)
    (pss_cons (ps_if (PW.pt (pw_or (pt_cmpR op_ne (pe_callB call_isi (by rfl) T.n_isinstance (by decide +kernel) (pa_cons (pv 1) (pa_cons (pe_bltn (v := .ty "bool") (by rfl) T.n_bool (by decide +kernel) rfl) pa_nil))) (pe_callB call_isi (by rfl) T.n_isinstance (by decide +kernel) (pa_cons (pv 0) (pa_cons (pe_bltn (v := .ty "bool") (by rfl) T.n_bool (by decide +kernel) rfl) pa_nil))) (nomark _)) (pw_or1 (pt_cmpR op_ne (pe_callB call_isi (by rfl) T.n_isinstance (by decide +kernel) (pa_cons (pv 1) (pa_cons (pe_bltn (v := .ty "str") (by rfl) T.n_str (by decide +kernel) rfl) pa_nil))) (pe_callB call_isi (by rfl) T.n_isinstance (by decide +kernel) (pa_cons (pv 0) (pa_cons (pe_bltn (v := .ty "str") (by rfl) T.n_str (by decide +kernel) rfl) pa_nil))) (nomark _))))) (pss_one (ps_ret pe_bl)) pss_nil)
    (pss_one (ps_ret (pe_cmpR op_eq (pv 0) (pv 1) (nomark _))))))), ?_⟩
    have scalar : ∀ (ty : String), Dsc v d → Dsc v' d → True := fun _ _ _ => trivial
    clear scalar
    have hs : (Dsc v d ∧ Dsc v' d) ∨ ∃ n, m = n + 1 ∧ ((∃ a xs ds, v = .ref a ∧ H a = some (.lst xs) ∧ d = .list ds ∧ Paired (Dt H n) xs ds ∧ ds.length ≤ 100000) ∨ ∃ a xs ds, v = .ref a ∧ H a = some (.tup xs) ∧ d = .tuple ds ∧ Paired (Dt H n) xs ds ∧ ds.length ≤ 100000) := by
      cases m with
      | zero => exact .inl ⟨h1, h2⟩
      | succ n =>
        rcases h1 with h1 | h1 | h1
        · rcases h2 with h2 | ⟨a, xs, ds, _, _, e, _⟩ | ⟨a, xs, ds, _, _, e, _⟩
          · exact .inl ⟨h1, h2⟩
          · rw [e] at h1
            exact (dsc_lst h1).elim
          · rw [e] at h1
            exact (dsc_tup h1).elim
        · exact .inr ⟨n, rfl, .inl h1⟩
        · exact .inr ⟨n, rfl, .inr h1⟩
    rcases hs with ⟨s1, s2⟩ | ⟨n, rfl, h1 | h1⟩
    · have ev := dsc_one s1 s2
      subst ev
      rcases s1 with ⟨rfl, _⟩ | ⟨b, rfl, _⟩ | ⟨i, rfl, _⟩ | ⟨z, rfl, _⟩
      · refine ⟨_, rfl, (by show 2 ≤ sizeLine; decide), fun tp nt => ⟨_, tp, _, _, _, false, rfl, upd_same, .cons (.ty "list") (.cons (.ty "tuple") .nil), .base .non, kit_no (by decide +kernel) (by decide +kernel), false, rfl, iteF ?_⟩⟩
        exact ⟨_, rfl, rfl, _, rfl, iteP rfl (iteT ⟨_, rfl, rfl, true, rfl, iteT ⟨_, rfl, rfl, q _ (same_upd nt)⟩⟩)⟩
      · refine ⟨_, rfl, (by show 2 ≤ sizeLine; decide), fun tp nt => ⟨_, tp, _, _, _, false, rfl, upd_same, .cons (.ty "list") (.cons (.ty "tuple") .nil), .base (.bl b), kit_no (by decide +kernel) (by decide +kernel), false, rfl, iteF ?_⟩⟩
        refine ⟨_, rfl, rfl, _, rfl, iteN rfl ⟨_, rfl, rfl, _, rfl, iteN rfl ?_⟩⟩
        refine ⟨_, rfl, _, _, _, _, true, rfl, .ty "bool", .base (.bl b), kit_ty (by decide +kernel), _, rfl, _, _, _, _, true, rfl, .ty "bool", .base (.bl b), kit_ty (by decide +kernel), rfl, _, rfl, iteN (by decide) ?_⟩
        refine ⟨_, rfl, _, _, _, _, false, rfl, .ty "str", .base (.bl b), kit_ty (by decide +kernel), _, rfl, _, _, _, _, false, rfl, .ty "str", .base (.bl b), kit_ty (by decide +kernel), rfl, _, rfl, iteN (by decide) ?_⟩
        refine ⟨_, rfl, _, rfl, rfl, ?_⟩
        rw [decide_eq_true rfl]
        exact q _ (same_upd nt)
      · refine ⟨_, rfl, (by show 2 ≤ sizeLine; decide), fun tp nt => ⟨_, tp, _, _, _, false, rfl, upd_same, .cons (.ty "list") (.cons (.ty "tuple") .nil), .base (.int i), kit_no (by decide +kernel) (by decide +kernel), false, rfl, iteF ?_⟩⟩
        refine ⟨_, rfl, rfl, _, rfl, iteN rfl ⟨_, rfl, rfl, _, rfl, iteN rfl ?_⟩⟩
        refine ⟨_, rfl, _, _, _, _, false, rfl, .ty "bool", .base (.int i), kit_ty (by decide +kernel), _, rfl, _, _, _, _, false, rfl, .ty "bool", .base (.int i), kit_ty (by decide +kernel), rfl, _, rfl, iteN (by decide) ?_⟩
        refine ⟨_, rfl, _, _, _, _, false, rfl, .ty "str", .base (.int i), kit_ty (by decide +kernel), _, rfl, _, _, _, _, false, rfl, .ty "str", .base (.int i), kit_ty (by decide +kernel), rfl, _, rfl, iteN (by decide) ?_⟩
        refine ⟨_, rfl, _, rfl, rfl, ?_⟩
        rw [decide_eq_true rfl]
        exact q _ (same_upd nt)
      · refine ⟨_, rfl, (by show 2 ≤ sizeLine; decide), fun tp nt => ⟨_, tp, _, _, _, false, rfl, upd_same, .cons (.ty "list") (.cons (.ty "tuple") .nil), .base (.str z), kit_no (by decide +kernel) (by decide +kernel), false, rfl, iteF ?_⟩⟩
        refine ⟨_, rfl, rfl, _, rfl, iteN rfl ⟨_, rfl, rfl, _, rfl, iteN rfl ?_⟩⟩
        refine ⟨_, rfl, _, _, _, _, false, rfl, .ty "bool", .base (.str z), kit_ty (by decide +kernel), _, rfl, _, _, _, _, false, rfl, .ty "bool", .base (.str z), kit_ty (by decide +kernel), rfl, _, rfl, iteN (by decide) ?_⟩
        refine ⟨_, rfl, _, _, _, _, true, rfl, .ty "str", .base (.str z), kit_ty (by decide +kernel), _, rfl, _, _, _, _, true, rfl, .ty "str", .base (.str z), kit_ty (by decide +kernel), rfl, _, rfl, iteN (by decide) ?_⟩
        refine ⟨_, rfl, _, rfl, rfl, ?_⟩
        rw [decide_eq_true rfl]
        exact q _ (same_upd nt)
    · obtain ⟨a1, xs, ds, rfl, hx, rfl, px, ld⟩ := h1
      rcases h2 with h2 | h2 | h2
      · exact (dsc_lst h2).elim
      · obtain ⟨a2, ys, ds2, rfl, hy, e2, py, _⟩ := h2
        cases e2
        have l1 : xs.length = ds.length := Paired.len px
        have l2 : ys.length = ds.length := Paired.len py
        refine ⟨_, rfl, (by show 2 ≤ sizeLine; decide), fun tp nt => ⟨_, tp, _, _, _, true, rfl, upd_same, .cons (.ty "list") (.cons (.ty "tuple") .nil), .base (.lst (same_upd nt _ _ hy)), kit_lst, true, rfl, iteT ?_⟩⟩
        have st : Same H (upd H tp (.tup [.ty "list", .ty "tuple"])) := same_upd nt
        refine ⟨_, rfl, _, _, _, _, true, rfl, .ty "list", .base (.lst (st _ _ hx)), kit_ty (by decide +kernel), _, rfl, _, _, _, _, true, rfl, .ty "list", .base (.lst (st _ _ hy)), kit_ty (by decide +kernel), rfl, _, rfl, iteN (by decide) ?_⟩
        refine ⟨_, rfl, _, _, _, _, false, rfl, .ty "tuple", .base (.lst (st _ _ hx)), kit_ty (by decide +kernel), _, rfl, _, _, _, _, false, rfl, .ty "tuple", .base (.lst (st _ _ hy)), kit_ty (by decide +kernel), rfl, _, rfl, iteN (by decide) ?_⟩
        refine ⟨_, rfl, a1, xs, rfl, .inl (.of (st _ _ hx)), _, rfl, a2, ys, rfl, .inl (.of (st _ _ hy)), rfl, true, ?_, iteT ?_⟩
        · rw [l1, l2]
          exact congrArg V.bl (decide_eq_true rfl)
        refine ⟨_, rfl, a2, ys, rfl, .inl (.of (st _ _ hy)), _, rfl, by omega, by omega, fun L nL => ?_⟩
        refine lc_range (lo := 0) (n := ((ys.length : Int)).toNat) (fun i H' => Same (upd H tp (.tup [.ty "list", .ty "tuple"])) H' ∧ H' L = some (.lst ((List.replicate i true).map V.bl))) ⟨same_upd nL, upd_same⟩ (fun i H' hi p => ?_) (fun H' p => ?_)
        · obtain ⟨sm, hL⟩ := p
          have hi : i < ds.length := by omega
          obtain ⟨x, ex, dx⟩ := Paired.at' px (List.getElem?_eq_getElem hi)
          obtain ⟨y, ey, dy⟩ := Paired.at' py (List.getElem?_eq_getElem hi)
          have sA : Same H H' := st.trans sm
          refine ⟨rfl, yesT ⟨_, rfl, _, rfl, ixL ⟨a1, xs, 0 + i, x, rfl, rfl, .of (sA _ _ hx), atI_of (by omega) (by rw [show (0 + (i : Int)).toNat = i by omega]; exact ex), _, rfl, _, rfl, ixL ⟨a2, ys, 0 + i, y, rfl, rfl, .of (sA _ _ hy), atI_of (by omega) (by rw [show (0 + (i : Int)).toNat = i by omega]; exact ey), ?_⟩⟩⟩⟩
          refine ⟨x, y, _, rfl, dx.same sA, dy.same sA, fun H2 s2 => ⟨_, s2 _ _ hL, ?_, same_grow nL (sm.trans s2), ?_⟩⟩
          · simp only [List.length_map, List.length_replicate]
            exact small (by omega)
          · rw [upd_same, List.replicate_succ', List.map_append]
            rfl
        · refine ⟨L, _, rfl, .of p.2, ?_⟩
          rw [all_rep]
          exact q H' (st.trans p.1)
      · obtain ⟨_, _, _, _, _, e2, _⟩ := h2
        cases e2
    · obtain ⟨a1, xs, ds, rfl, hx, rfl, px, ld⟩ := h1
      rcases h2 with h2 | h2 | h2
      · exact (dsc_tup h2).elim
      · obtain ⟨_, _, _, _, _, e2, _⟩ := h2
        cases e2
      · obtain ⟨a2, ys, ds2, rfl, hy, e2, py, _⟩ := h2
        cases e2
        have l1 : xs.length = ds.length := Paired.len px
        have l2 : ys.length = ds.length := Paired.len py
        refine ⟨_, rfl, (by show 2 ≤ sizeLine; decide), fun tp nt => ⟨_, tp, _, _, _, true, rfl, upd_same, .cons (.ty "list") (.cons (.ty "tuple") .nil), .base (.tup (same_upd nt _ _ hy)), kit_tup, true, rfl, iteT ?_⟩⟩
        have st : Same H (upd H tp (.tup [.ty "list", .ty "tuple"])) := same_upd nt
        refine ⟨_, rfl, _, _, _, _, false, rfl, .ty "list", .base (.tup (st _ _ hx)), kit_ty (by decide +kernel), _, rfl, _, _, _, _, false, rfl, .ty "list", .base (.tup (st _ _ hy)), kit_ty (by decide +kernel), rfl, _, rfl, iteN (by decide) ?_⟩
        refine ⟨_, rfl, _, _, _, _, true, rfl, .ty "tuple", .base (.tup (st _ _ hx)), kit_ty (by decide +kernel), _, rfl, _, _, _, _, true, rfl, .ty "tuple", .base (.tup (st _ _ hy)), kit_ty (by decide +kernel), rfl, _, rfl, iteN (by decide) ?_⟩
        refine ⟨_, rfl, a1, xs, rfl, .inr (.of (st _ _ hx)), _, rfl, a2, ys, rfl, .inr (.of (st _ _ hy)), rfl, true, ?_, iteT ?_⟩
        · rw [l1, l2]
          exact congrArg V.bl (decide_eq_true rfl)
        refine ⟨_, rfl, a2, ys, rfl, .inr (.of (st _ _ hy)), _, rfl, by omega, by omega, fun L nL => ?_⟩
        refine lc_range (lo := 0) (n := ((ys.length : Int)).toNat) (fun i H' => Same (upd H tp (.tup [.ty "list", .ty "tuple"])) H' ∧ H' L = some (.lst ((List.replicate i true).map V.bl))) ⟨same_upd nL, upd_same⟩ (fun i H' hi p => ?_) (fun H' p => ?_)
        · obtain ⟨sm, hL⟩ := p
          have hi : i < ds.length := by omega
          obtain ⟨x, ex, dx⟩ := Paired.at' px (List.getElem?_eq_getElem hi)
          obtain ⟨y, ey, dy⟩ := Paired.at' py (List.getElem?_eq_getElem hi)
          have sA : Same H H' := st.trans sm
          refine ⟨rfl, yesT ⟨_, rfl, _, rfl, ixT ⟨a1, xs, 0 + i, x, rfl, rfl, .of (sA _ _ hx), atI_of (by omega) (by rw [show (0 + (i : Int)).toNat = i by omega]; exact ex), _, rfl, _, rfl, ixT ⟨a2, ys, 0 + i, y, rfl, rfl, .of (sA _ _ hy), atI_of (by omega) (by rw [show (0 + (i : Int)).toNat = i by omega]; exact ey), ?_⟩⟩⟩⟩
          refine ⟨x, y, _, rfl, dx.same sA, dy.same sA, fun H2 s2 => ⟨_, s2 _ _ hL, ?_, same_grow nL (sm.trans s2), ?_⟩⟩
          · simp only [List.length_map, List.length_replicate]
            exact small (by omega)
          · rw [upd_same, List.replicate_succ', List.map_append]
            rfl
        · refine ⟨L, _, rfl, .of p.2, ?_⟩
          rw [all_rep]
          exact q H' (st.trans p.1)
theorem ok_law_same (D : Df K mg "_law_same" s_law_same) (T : Tx mg) : ∀ n, Has P w K mg base (n + 2) "_law_same" ["found", "due"] (sp_law_same n)
  | 0 => step_law_same D T 0 (none_law_same D)
  | n + 1 => step_law_same D T (n + 1) (ok_law_same D T n)
end
end UP

set_option Elab.async false
set_option linter.all false
set_option maxRecDepth 100000
set_option maxHeartbeats 4000000
namespace UP
open PySem PySem.Spec PyProof.Rows L2
/-! ### a walk over one object that stays, whatever else is changed -/
structure WkA (J : It) (H : Hp) (a : Addr) (xs : List V) : Prop where
  go : ∀ i H', H' a = H a → i < xs.length → J.go i H'
  stop : ∀ H', H' a = H a → J.stop xs.length H'
  yld : ∀ i x H' H'', H' a = H a → J.yld i H' x H'' → H'' = H' ∧ xs[i]? = some x
def iSeqA (i : Nat) : TI := fun σ H R => ∃ a xs, σ[i]? = some (some (.ref a)) ∧ Sq2 H a xs ∧ ∀ J, WkA J H a xs → R J H
section
variable {X : Cx}
theorem wka_list {K : PySem.W.Frag} {H : Hp} {a : Addr} {xs : List V} (h : H a = some (.lst xs)) : WkA (Itl K a) H a xs :=
  ⟨fun i H' e hi => ⟨xs, xs[i], .of (e.trans h), List.getElem?_eq_getElem hi⟩, fun H' e => ⟨xs, .of (e.trans h), Nat.le_refl _⟩, fun i x H' H'' e y => ⟨y.1, y.2 xs (.of (e.trans h))⟩⟩
theorem wka_tup {K : PySem.W.Frag} {H : Hp} {a : Addr} {xs : List V} (h : H a = some (.tup xs)) : WkA (Itt K a) H a xs :=
  ⟨fun i H' e hi => ⟨xs, xs[i], .of (e.trans h), List.getElem?_eq_getElem hi⟩, fun H' e => ⟨xs, .of (e.trans h), Nat.le_refl _⟩, fun i x H' H'' e y => ⟨y.1, y.2 xs (.of (e.trans h))⟩⟩
theorem pi_seqA (i : Nat) {x : Str} {pos : Pos} {tg : Expr} (hN : X.N[i]? = some x := by rfl) (hv : Vis X.env.scope x := by first | exact Or.inl rfl | exact Or.inr (Or.inl rfl) | exact Or.inr (Or.inr rfl)) (hd : (x == ("__debug__" : Str)) = false := by decide)
    (hc : (x == ("__classdict__" : Str)) = false := by decide) : PI X tg (.Name x pos) (iSeqA i) := by
  refine ⟨fun pins s σ H R I hw => ?_⟩
  obtain ⟨a, xs, e, h, k⟩ := hw
  rcases h with h | h
  · exact (pi_list (pe_var hN hv hd hc)).run pins s σ H R I ⟨_, e, a, rfl, ⟨xs, .of h⟩, k _ (wka_list h)⟩
  · exact (pi_tup (pe_var hN hv hd hc)).run pins s σ H R I ⟨_, e, a, rfl, ⟨xs, .of h⟩, k _ (wka_tup h)⟩
end
theorem lc_wka {J : It} {H0 H1 : Hp} {a : Addr} {xs : List V} {g : TG} {tt : TT} {te : TE} {vs : List Nat} {σ : L2.St} {D : Addr} {Qd : Hp → Prop} (wk : WkA J H0 a xs) (Pv : Nat → Hp → Prop) (hsm : ∀ i H, Pv i H → H a = H0 a) (h0 : Pv 0 (upd H1 D (.lst [])))
    (hs : ∀ i x H, xs[i]? = some x → Pv i H → g x (wipe σ vs) H fun σ2 H2 => wipe σ2 vs = wipe σ vs ∧ tt σ2 H2 fun b H3 =>
      if b = true then te σ2 H3 fun y H4 => ∃ acc, H4 D = some (.lst acc) ∧ acc.length < sizeLine ∧ Pv (i + 1) (upd H4 D (.lst (acc ++ [y]))) else Pv (i + 1) H3) (hd : ∀ H, Pv xs.length H → Qd H) :
    ∃ W : Nat → Nat → Hp → Prop, (∃ m, W 0 m (upd H1 D (.lst []))) ∧ ∀ i m H, W i m H →
      (J.stop i H ∧ Qd H) ∨ (J.go i H ∧ ∃ Nx : Hp → Prop, (∀ H', Nx H' → ∃ m', m' < m ∧ W (i + 1) m' H') ∧ ∀ x H', J.yld i H x H' → g x (wipe σ vs) H' fun σ2 H2 => wipe σ2 vs = wipe σ vs ∧ tt σ2 H2 fun b H3 =>
        if b = true then te σ2 H3 fun y H4 => ∃ acc, H4 D = some (.lst acc) ∧ acc.length < sizeLine ∧ Nx (upd H4 D (.lst (acc ++ [y]))) else Nx H3) := by
  refine lc_gen Pv h0 (fun i H hi p => wk.go i H (hsm i H p) hi) (fun H p => wk.stop H (hsm _ H p)) (fun i x H H' hi p y => ?_) hd
  obtain ⟨e, ex⟩ := wk.yld i x H H' (hsm i H p) y
  subst e
  exact hs i x _ ex p
theorem for_gen {J : It} {n : Nat} {H : Hp} {g : TG} {tb : TS} {D : Ends} {σ : L2.St} (Pv : Nat → L2.St → Hp → Prop) (h0 : Pv 0 σ H) (hg : ∀ i σ H, i < n → Pv i σ H → J.go i H) (hst : ∀ σ H, Pv n σ H → J.stop n H)
    (hs : ∀ i x σ H H', i < n → Pv i σ H → J.yld i H x H' → g x σ H' fun σ2 H2 => tb { D with nx := Pv (i + 1), ct := Pv (i + 1), bk := D.nx } σ2 H2) (hd : ∀ σ H, Pv n σ H → D.nx σ H) :
    ∃ W : Nat → Nat → L2.St → Hp → Prop, (∃ m, W 0 m σ H) ∧ ∀ i m σ H, W i m σ H →
      (J.stop i H ∧ D.nx σ H) ∨ (J.go i H ∧ ∃ N : L2.St → Hp → Prop, (∀ σ' H', N σ' H' → ∃ m', m' < m ∧ W (i + 1) m' σ' H') ∧ ∀ x H', J.yld i H x H' → g x σ H' fun σ2 H2 => tb { D with nx := N, ct := N, bk := D.nx } σ2 H2) := by
  refine ⟨fun i m σ H => m = n - i ∧ i ≤ n ∧ Pv i σ H, ⟨n, by omega, Nat.zero_le _, h0⟩, ?_⟩
  rintro i m σ H ⟨rfl, hi, p⟩
  by_cases hlt : i < n
  · exact Or.inr ⟨hg i σ H hlt p, Pv (i + 1), fun σ' H' p' => ⟨n - (i + 1), by omega, rfl, hlt, p'⟩, fun x H' y => hs i x σ H H' hlt p y⟩
  · have e : i = n := by omega
    subst e
    exact Or.inl ⟨hst σ H p, hd σ H p⟩
theorem for_wka {J : It} {H0 H : Hp} {a : Addr} {xs : List V} {g : TG} {tb : TS} {D : Ends} {σ : L2.St} (wk : WkA J H0 a xs) (Pv : Nat → L2.St → Hp → Prop) (hsm : ∀ i σ H, Pv i σ H → H a = H0 a) (h0 : Pv 0 σ H)
    (hs : ∀ i x σ H, xs[i]? = some x → Pv i σ H → g x σ H fun σ2 H2 => tb { D with nx := Pv (i + 1), ct := Pv (i + 1), bk := D.nx } σ2 H2) (hd : ∀ σ H, Pv xs.length σ H → D.nx σ H) :
    ∃ W : Nat → Nat → L2.St → Hp → Prop, (∃ m, W 0 m σ H) ∧ ∀ i m σ H, W i m σ H →
      (J.stop i H ∧ D.nx σ H) ∨ (J.go i H ∧ ∃ N : L2.St → Hp → Prop, (∀ σ' H', N σ' H' → ∃ m', m' < m ∧ W (i + 1) m' σ' H') ∧ ∀ x H', J.yld i H x H' → g x σ H' fun σ2 H2 => tb { D with nx := N, ct := N, bk := D.nx } σ2 H2) := by
  refine for_gen Pv h0 (fun i σ H hi p => wk.go i H (hsm i σ H p) hi) (fun σ H p => wk.stop H (hsm _ σ H p)) (fun i x σ H H' hi p y => ?_) hd
  obtain ⟨e, ex⟩ := wk.yld i x H H' (hsm i σ H p) y
  subst e
  exact hs i x σ _ ex p
theorem Sq2.eq {H H' : Hp} {a : Addr} {xs : List V} (h : Sq2 H a xs) (s : Same H H') : H' a = H a := h.elim (fun z => (s _ _ z).trans z.symm) (fun z => (s _ _ z).trans z.symm)
/-! ### data without its dress -/
def Sim (N : Addr → Prop) (H : Hp) : Nat → V → PyData → Prop
  | 0, v, d => Dsc v d
  | n + 1, v, d => Dsc v d ∨ ∃ a xs ds, v = .ref a ∧ N a ∧ Sq2 H a xs ∧ d = .list ds ∧ Paired (Sim N H n) xs ds ∧ ds.length ≤ 1000
theorem Sim.keep {N N' : Addr → Prop} {H H' : Hp} (hn : ∀ a, N a → N' a) (hk : ∀ a o, N a → H a = some o → H' a = some o) : ∀ {n : Nat} {v : V} {d : PyData}, Sim N H n v d → Sim N' H' n v d
  | 0, _, _, h => h
  | n + 1, v, d, h => by
    rcases h with h | ⟨a, xs, ds, e, na, hx, e2, p, l⟩
    · exact .inl h
    · exact .inr ⟨a, xs, ds, e, hn a na, hx.elim (fun z => .inl (hk _ _ na z)) (fun z => .inr (hk _ _ na z)), e2, Paired.imp (fun _ _ z => Sim.keep hn hk z) p, l⟩
theorem Sim.dsc {N : Addr → Prop} {H : Hp} {v : V} {d : PyData} : ∀ {n : Nat}, Dsc v d → Sim N H n v d
  | 0, h => h
  | n + 1, h => .inl h
section
variable {P : Program} {w : World} {K : PySem.W.Frag} {mg : Str → Option Value} {base : Heap}
/-! _law_dressed: slots 0:spring 1:value 2:parts 3:part -/
abbrev s_law_dressed : Stmt := topS 38
theorem sc_law_dressed : FnScope ["spring", "value", "parts", "part"] ["spring", "value"] (defScope s_law_dressed) := ⟨rfl, rfl, rfl, by decide +kernel, rfl, by decide +kernel, by decide +kernel⟩
def sp_law_dressed (n : Nat) : Sp := fun vs H Q _ => ∃ (sp : Addr) (v : V) (d : PyData), vs = [.ref sp, v] ∧ Spr H sp ∧ Sim (· ≠ sp) H n v d ∧ ∀ H' v', But sp H H' → Spr H' sp → Sim (fun a => H a = none) H' n v' d → Q v' H'
def sp_pred : Nat → Sp
  | 0 => sp_none
  | n + 1 => sp_law_dressed n
theorem none_law_dressed (D : Df K mg "_law_dressed" s_law_dressed) : Has P w K mg base 1 "_law_dressed" ["spring", "value"] sp_none :=
  has_of D sc_law_dressed (fun _ _ _ _ _ _ us hl => match us, hl with | [_, _], _ => rfl) (fun _ _ _ _ h => h.elim) (fun _ _ _ _ _ _ _ _ _ _ h => h.elim)
theorem step_law_dressed (D : Df K mg "_law_dressed" s_law_dressed) (T : Tx mg) (m : Nat) (G_law_draw : Has P w K mg base 1 "_law_draw" ["spring", "many"] sp_law_draw) (G_law_dressed : Has P w K mg base (m + 1) "_law_dressed" ["spring", "value"] (sp_pred m)) :
    Has P w K mg base (m + 2) "_law_dressed" ["spring", "value"] (sp_law_dressed m) := by
  refine has_of D sc_law_dressed (fun _ _ _ _ _ _ us hl => match us, hl with | [_, _], _ => rfl) (fun vs H Q E h => ?_) (fun f cdv A outer s H vs Q E hr h => ?_)
  · obtain ⟨_, _, _, rfl, _⟩ := h
    rfl
  · obtain ⟨sp, v, d, rfl, hz, hv, q⟩ := h
    refine ⟨_, (pss_cons (ps_if (pt_not (pt_val (pe_callB call_isiT (by rfl) T.n_isinstance (by decide +kernel) (pa_cons (pv 1) (pa_cons (pe_tup (pa_cons (pe_bltn (v := .ty "list") (by rfl) T.n_list (by decide +kernel) rfl) (pa_cons (pe_bltn (v := .ty "tuple") (by rfl) T.n_tuple (by decide +kernel) rfl) pa_nil))) pa_nil))))) (pss_one (ps_ret (pv 1))) pss_nil)
    (pss_cons (ps_setLc (i := 2) (own := [("part", 3)]) rfl sc_law_dressed.nd rfl rfl (sw_true rfl rfl rfl (by decide +kernel)) (pi_seqA 1) (blkOk_by (N := ["spring", "value", "parts", "part"]) (sc := defScope s_law_dressed) (by decide +kernel)) (fun _ _ _ _ _ => (pg_name (i := 3) sc_law_dressed.nd rfl (by first | exact Or.inl rfl | exact Or.inr rfl))) (fun _ _ _ _ _ => pts_nil) (fun _ _ _ _ _ => (pe_callH G_law_dressed (hr.mono (by omega)) (by rfl) (pa_cons (pv 0) (pa_cons (pv 3) pa_nil)))))
    (pss_one (ps_ret (pe_ifExp (pt_cmpR op_eq (pe_callH G_law_draw (hr.mono (by omega)) (by rfl) (pa_cons (pv 0) (pa_cons pe_int pa_nil))) pe_int (nomark _)) (pv 2) (pe_callTy call_tuple_of (by rfl) T.n_tuple (by decide +kernel) (pa_cons (pv 2) pa_nil))))))), ?_⟩
    have hs : Dsc v d ∨ ∃ n, m = n + 1 ∧ ∃ a xs ds, v = .ref a ∧ a ≠ sp ∧ Sq2 H a xs ∧ d = .list ds ∧ Paired (Sim (· ≠ sp) H n) xs ds ∧ ds.length ≤ 1000 := by
      cases m with
      | zero => exact .inl hv
      | succ n =>
        rcases hv with hv | hv
        · exact .inl hv
        · exact .inr ⟨n, rfl, hv⟩
    rcases hs with hs | ⟨n, rfl, a, xs, ds, rfl, na, hx, rfl, px, ld⟩
    · have fin : ∀ t, H t = none → Q v (upd H t (.tup [.ty "list", .ty "tuple"])) := fun t nt => q _ _ (sb (same_upd nt)) (hz.same (same_upd nt)) (Sim.dsc hs)
      rcases hs with ⟨rfl, _⟩ | ⟨b, rfl, _⟩ | ⟨i, rfl, _⟩ | ⟨z, rfl, _⟩
      · exact ⟨_, rfl, (by show 2 ≤ sizeLine; decide), fun tp nt => ⟨_, tp, _, _, _, false, rfl, upd_same, .cons (.ty "list") (.cons (.ty "tuple") .nil), .base .non, kit_no (by decide +kernel) (by decide +kernel), false, rfl, iteT ⟨_, rfl, fin tp nt⟩⟩⟩
      · exact ⟨_, rfl, (by show 2 ≤ sizeLine; decide), fun tp nt => ⟨_, tp, _, _, _, false, rfl, upd_same, .cons (.ty "list") (.cons (.ty "tuple") .nil), .base (.bl b), kit_no (by decide +kernel) (by decide +kernel), false, rfl, iteT ⟨_, rfl, fin tp nt⟩⟩⟩
      · exact ⟨_, rfl, (by show 2 ≤ sizeLine; decide), fun tp nt => ⟨_, tp, _, _, _, false, rfl, upd_same, .cons (.ty "list") (.cons (.ty "tuple") .nil), .base (.int i), kit_no (by decide +kernel) (by decide +kernel), false, rfl, iteT ⟨_, rfl, fin tp nt⟩⟩⟩
      · exact ⟨_, rfl, (by show 2 ≤ sizeLine; decide), fun tp nt => ⟨_, tp, _, _, _, false, rfl, upd_same, .cons (.ty "list") (.cons (.ty "tuple") .nil), .base (.str z), kit_no (by decide +kernel) (by decide +kernel), false, rfl, iteT ⟨_, rfl, fin tp nt⟩⟩⟩
    · have lx : xs.length = ds.length := Paired.len px
      refine ⟨_, rfl, (by show 2 ≤ sizeLine; decide), fun tp nt => ?_⟩
      have st : Same H (upd H tp (.tup [.ty "list", .ty "tuple"])) := same_upd nt
      have go : ∃ t : Bool, t = true ∧ True := ⟨true, rfl, trivial⟩
      clear go
      have z1 := hz.same st
      have hx1 := hx.same st
      have px1 : Paired (Sim (· ≠ sp) (upd H tp (.tup [.ty "list", .ty "tuple"])) n) xs ds := Paired.imp (fun _ _ z => Sim.keep (fun _ h => h) (fun _ _ _ e => st _ _ e) z) px
      have fr1 : ∀ b, (upd H tp (.tup [.ty "list", .ty "tuple"])) b = none → H b = none := fun b e => st.free e
      have B1 : But sp H (upd H tp (.tup [.ty "list", .ty "tuple"])) := sb st
      have tpT : (upd H tp (.tup [.ty "list", .ty "tuple"])) tp = some (.tup [.ty "list", .ty "tuple"]) := upd_same
      clear px
      generalize (upd H tp (.tup [.ty "list", .ty "tuple"])) = H1 at z1 hx1 px1 fr1 B1 tpT
      have tail : ∀ (J : It), WkA J H1 a xs → ∀ L, H1 L = none → ∃ (Pv : Nat → Hp → Prop), Pv = fun i H' => But sp H1 H' ∧ Spr H' sp ∧ ∃ ys, H' L = some (.lst ys) ∧ Paired (Sim (fun b => H1 b = none ∧ b ≠ L) H' n) ys (ds.take i) := fun _ _ _ _ => ⟨_, rfl⟩
      clear tail
      have isi : ∃ c, TyX K H1 (.ref a) (.type c) ∧ PySem.W.kitAny K (.type c) [.type "list", .type "tuple"] = some true := hx1.elim (fun z => ⟨"list", .base (.lst z), kit_lst⟩) (fun z => ⟨"tuple", .base (.tup z), kit_tup⟩)
      obtain ⟨c, ty, ki⟩ := isi
      refine ⟨_, tp, _, _, _, true, rfl, tpT, .cons (.ty "list") (.cons (.ty "tuple") .nil), ty, ki, true, rfl, iteF ?_⟩
      refine ⟨a, xs, rfl, hx1, fun J wk L nL => ?_⟩
      have nLs : L ≠ sp := Spr.ne z1 nL
      refine lc_wka wk (fun i H' => But sp H1 H' ∧ Spr H' sp ∧ ∃ ys, H' L = some (.lst ys) ∧ Paired (Sim (fun b => H1 b = none ∧ b ≠ L) H' n) ys (ds.take i)) (fun i H' p => ?_) ⟨sb (same_upd nL), z1.same (same_upd nL), [], upd_same, .nil⟩ (fun i x H2 ex p => ?_) (fun H2 p => ?_)
      · rcases hx1 with z | z
        · exact (p.1 _ _ na z).trans z.symm
        · exact (p.1 _ _ na z).trans z.symm
      · obtain ⟨b2, z2, ys, hL, hy⟩ := p
        obtain ⟨d, ed, hd⟩ := Paired.at px1 ex
        have hi : i < xs.length := (List.getElem?_eq_some_iff.mp ex).1
        refine ⟨rfl, yesT ⟨_, rfl, _, rfl, sp, x, d, rfl, z2, Sim.keep (fun _ h => h) (fun b o nb e => b2 b o nb e) hd, fun H3 v3 b3 z3 h3 => ⟨ys, b3 _ _ nLs hL, ?_, ?_, ?_, _, upd_same, ?_⟩⟩⟩
        · have := Paired.len hy
          rw [List.length_take] at this
          exact small (by omega)
        · intro b o nb e
          rw [upd_ne (ne_of_none e nL)]
          exact b3 b o nb (b2 b o nb e)
        · obtain ⟨x1, x2, x3, hsp, rest⟩ := z3
          refine ⟨x1, x2, x3, ?_, rest⟩
          rw [upd_ne nLs.symm]
          exact hsp
        · have old : ∀ b o, (H1 b = none ∧ b ≠ L) → H2 b = some o → upd H3 L (.lst (ys ++ [v3])) b = some o := by
            intro b o nb e
            rw [upd_ne nb.2]
            refine b3 b o (fun z => ?_) e
            rw [z] at nb
            obtain ⟨_, _, _, hsp, _⟩ := z1
            rw [hsp] at nb
            cases nb.1
          rw [take_snoc ed]
          refine Paired.app (Paired.imp (fun _ _ z => Sim.keep (fun _ h => h) old z) hy) (.cons (Sim.keep (fun b nb => ?_) (fun b o nb e => ?_) h3) .nil)
          · exact ⟨b2.free z2 nb, fun z => by rw [z, hL] at nb; cases nb⟩
          · rw [upd_ne (fun z => by rw [z, hL] at nb; cases nb)]
            exact e
      · obtain ⟨b2, z2, ys, hL, hy⟩ := p
        rw [lx, List.take_length] at hy
        have ly := Paired.len hy
        refine ⟨_, rfl, sp, 2, rfl, z2, by decide, by decide, fun H3 r3 b3 z3 r30 r31 => ⟨rfl, _, rfl, ?_⟩⟩
        have hL3 := b3 _ _ nLs hL
        have hy3 : Paired (Sim (fun b => H b = none) H3 n) ys ds := Paired.imp (fun _ _ z => Sim.keep (fun b nb => fr1 b nb.1) (fun b o nb e => b3 b o (fun z => by
          rw [z] at nb
          obtain ⟨_, _, _, hsp, _⟩ := z1
          rw [hsp] at nb
          cases nb.1) e) z) hy
        have B3 : But sp H H3 := B1.trans (b2.trans b3)
        by_cases e : r3 = 0
        · subst e
          exact iteP (decide_eq_true rfl) ⟨_, rfl, q _ _ B3 z3 (.inr ⟨L, ys, ds, rfl, fr1 L nL, .inl hL3, rfl, hy3, ld⟩)⟩
        · refine iteN (decide_eq_false fun z => e (V.int.inj z)) ⟨_, rfl, L, ys, rfl, .inl ⟨.of hL3, fun p np => q _ _ (B3.trans (sb (same_upd np))) (z3.same (same_upd np)) (.inr ⟨p, ys, ds, rfl, B3.free z3 np, .inr upd_same, rfl, ?_, ld⟩)⟩⟩
          exact Paired.imp (fun _ _ z => Sim.keep (fun _ h => h) (fun _ _ _ e => same_upd np _ _ e) z) hy3
theorem ok_law_dressed (D : Df K mg "_law_dressed" s_law_dressed) (T : Tx mg) (G_law_draw : Has P w K mg base 1 "_law_draw" ["spring", "many"] sp_law_draw) : ∀ n, Has P w K mg base (n + 2) "_law_dressed" ["spring", "value"] (sp_law_dressed n)
  | 0 => step_law_dressed D T 0 G_law_draw (none_law_dressed D)
  | n + 1 => step_law_dressed D T (n + 1) G_law_draw (ok_law_dressed D T G_law_draw n)
end
end UP

set_option Elab.async false
set_option linter.all false
set_option maxRecDepth 100000
set_option maxHeartbeats 4000000
namespace UP
open PySem PySem.Spec PyProof.Rows L2
/-! ### waiting items one by one -/
def plS (ws : List Run) (k : Str) (n : Nat) : List Run := match ws with
  | [] => [(k, (n : Int))]
  | r :: t => if r.1 = k then (r :: t) ++ [(k, (n : Int))] else t
def plP (ws : List Run) (k : Str) (n : Nat) : List (Int × Int) := match ws with
  | [] => []
  | r :: _ => if r.1 = k then [] else [(r.2, (n : Int))]
def plA (ws : List Run) (n : Nat) : List Str → List Run
  | [] => ws
  | k :: t => plA (plS ws k n) (n + 1) t
def psR (ws : List Run) (n : Nat) : List Str → List (Int × Int)
  | [] => []
  | k :: t => plP ws k n ++ psR (plS ws k n) (n + 1) t
theorem plA_snoc : ∀ (l : List Str) (ws : List Run) (n : Nat) (k : Str), plA ws n (l ++ [k]) = plS (plA ws n l) k (n + l.length)
  | [], ws, n, k => rfl
  | x :: t, ws, n, k => by
    show plA (plS ws x n) (n + 1) (t ++ [k]) = plS (plA (plS ws x n) (n + 1) t) k (n + (x :: t).length)
    rw [plA_snoc t, List.length_cons, show n + 1 + t.length = n + (t.length + 1) by omega]
theorem psR_snoc : ∀ (l : List Str) (ws : List Run) (n : Nat) (k : Str), psR ws n (l ++ [k]) = psR ws n l ++ plP (plA ws n l) k (n + l.length)
  | [], ws, n, k => by
    show plP ws k n ++ [] = [] ++ plP ws k (n + 0)
    rw [List.append_nil, List.nil_append, Nat.add_zero]
  | x :: t, ws, n, k => by
    show plP ws x n ++ psR (plS ws x n) (n + 1) (t ++ [k]) = (plP ws x n ++ psR (plS ws x n) (n + 1) t) ++ plP (plA (plS ws x n) (n + 1) t) k (n + (x :: t).length)
    rw [psR_snoc t, List.length_cons, List.append_assoc, show n + 1 + t.length = n + (t.length + 1) by omega]
def plMs (ws : List Run) (ks : List Str) : List (List Run) := (List.range (ks.length + 1)).map fun m => plA ws 0 (ks.take m)
theorem plMs_snoc (ws : List Run) (l : List Str) (k : Str) : plMs ws (l ++ [k]) = plMs ws l ++ [plA ws 0 (l ++ [k])] := by
  unfold plMs
  rw [List.length_append, List.length_cons, List.length_nil, Nat.zero_add, List.range_succ, List.map_append]
  congr 1
  · refine List.map_congr_left fun m hm => ?_
    have : m ≤ l.length := by
      have := List.mem_range.mp hm
      omega
    rw [List.take_append_of_le_length this]
  · rw [List.map_singleton, List.take_of_length_le (by rw [List.length_append]; exact Nat.le_refl _)]
theorem plMs_nil (ws : List Run) : plMs ws [] = [ws] := rfl
theorem plMs_len (ws : List Run) (l : List Str) : (plMs ws l).length = l.length + 1 := by
  unfold plMs
  rw [List.length_map, List.length_range]
theorem plS_len (ws : List Run) (k : Str) (n : Nat) : (plS ws k n).length ≤ ws.length + 1 := by
  cases ws with
  | nil => exact Nat.le_refl _
  | cons r t =>
    show (if r.1 = k then (r :: t) ++ [(k, (n : Int))] else t).length ≤ _
    split
    · rw [List.length_append]
      exact Nat.le_refl _
    · rw [List.length_cons]
      omega
theorem plA_len : ∀ (l : List Str) (ws : List Run) (n : Nat), (plA ws n l).length ≤ ws.length + l.length
  | [], ws, n => Nat.le_refl _
  | k :: t, ws, n => by
    have h1 := plA_len t (plS ws k n) (n + 1)
    have h2 := plS_len ws k n
    show (plA (plS ws k n) (n + 1) t).length ≤ _
    rw [List.length_cons]
    omega
theorem plP_len (ws : List Run) (k : Str) (n : Nat) : (plP ws k n).length ≤ 1 := by
  cases ws with
  | nil => exact Nat.zero_le _
  | cons r t =>
    show (if r.1 = k then [] else [(r.2, (n : Int))]).length ≤ 1
    split <;> simp
theorem psR_len : ∀ (l : List Str) (ws : List Run) (n : Nat), (psR ws n l).length ≤ l.length
  | [], ws, n => Nat.le_refl _
  | k :: t, ws, n => by
    have h1 := psR_len t (plS ws k n) (n + 1)
    have h2 := plP_len ws k n
    show (plP ws k n ++ psR (plS ws k n) (n + 1) t).length ≤ _
    rw [List.length_append, List.length_cons]
    omega
theorem plS_kinds {ws : List Run} {k : Str} {n : Nat} (h : ∀ r ∈ ws, KindOk r.1) (hk : KindOk k) : ∀ r ∈ plS ws k n, KindOk r.1 := by
  intro r hr
  cases ws with
  | nil =>
    rw [List.mem_singleton.mp (show r ∈ [(k, (n : Int))] from hr)]
    exact hk
  | cons x t =>
    have hr : r ∈ (if x.1 = k then (x :: t) ++ [(k, (n : Int))] else t) := hr
    by_cases e : x.1 = k
    · rw [if_pos e] at hr
      rcases List.mem_append.mp hr with z | z
      · exact h r z
      · rw [List.mem_singleton.mp z]
        exact hk
    · rw [if_neg e] at hr
      exact h r (List.mem_cons_of_mem _ hr)
theorem plA_kinds : ∀ {l : List Str} {ws : List Run} {n : Nat}, (∀ r ∈ ws, KindOk r.1) → (∀ k ∈ l, KindOk k) → ∀ r ∈ plA ws n l, KindOk r.1
  | [], _, _, h, _ => h
  | k :: t, ws, n, h, hl => plA_kinds (l := t) (plS_kinds h (hl k (List.mem_cons_self ..))) fun x hx => hl x (List.mem_cons_of_mem _ hx)
def w0R : Option Run → List Run
  | none => []
  | some r => List.replicate r.2.toNat (r.1, -1)
def itR (rs : List Run) : List Str := rs.flatMap fun r => List.replicate r.2.toNat r.1
theorem itR_snoc (l : List Run) (r : Run) : itR (l ++ [r]) = itR l ++ List.replicate r.2.toNat r.1 := by
  unfold itR
  rw [List.flatMap_append]
  simp
def PV (H : Hp) (v : V) (p : Int × Int) : Prop := ∃ t, v = .ref t ∧ H t = some (.tup [.int p.1, .int p.2])
theorem PV.same {H H' : Hp} {v : V} {p : Int × Int} (s : Same H H') (h : PV H v p) : PV H' v p := by
  obtain ⟨t, e, h⟩ := h
  exact ⟨t, e, s _ _ h⟩
theorem PV.grow {H : Hp} {D : Addr} {acc acc' : List V} {v : V} {p : Int × Int} (hD : H D = some (.lst acc)) (h : PV H v p) : PV (upd H D (.lst acc')) v p := by
  obtain ⟨t, e, h⟩ := h
  refine ⟨t, e, ?_⟩
  rw [upd_ne (ne_of h hD (by intro q; cases q))]
  exact h
theorem Runs.grow {H : Hp} {D a : Addr} {acc acc' : List V} {ws : List Run} (hD : H D = some (.lst acc)) (n : a ≠ D) (h : Runs H a ws) : Runs (upd H D (.lst acc')) a ws := by
  obtain ⟨xs, hx, hp⟩ := h
  refine ⟨xs, ?_, prs_grow hD hp⟩
  rw [upd_ne n]
  exact hx
/-- a list of runs apart from two others -/
def WL (H : Hp) (M N : Addr) (v : V) (ws : List Run) : Prop := ∃ a, v = .ref a ∧ a ≠ M ∧ a ≠ N ∧ Runs H a ws
theorem WL.same {H H' : Hp} {M N : Addr} {v : V} {ws : List Run} (s : Same H H') (h : WL H M N v ws) : WL H' M N v ws := by
  obtain ⟨a, e, n1, n2, h⟩ := h
  exact ⟨a, e, n1, n2, h.same s⟩
/-- what the play keeps -/
structure Pl (H0 H : Hp) (W M N : Addr) (ws0 : List Run) (ks ls : List Str) : Prop where
  sm : Same H0 H
  wm : W ≠ M
  wn : W ≠ N
  wr : Runs H W (plA ws0 0 ls)
  ms : ∃ xs, H M = some (.lst xs) ∧ Paired (WL H M N) xs (plMs ws0 ks)
  ps : ∃ ys, H N = some (.lst ys) ∧ Paired (PV H) ys (psR ws0 0 ls)
theorem flat_one {α : Type} (x : α) : ∀ n : Nat, (List.replicate n [x]).flatten = List.replicate n x
  | 0 => rfl
  | n + 1 => by
    rw [List.replicate_succ, List.flatten_cons, flat_one x n]
    rfl
theorem paired_rep {α β : Type} {F : α → β → Prop} {a : α} {b : β} (h : F a b) : ∀ n : Nat, Paired F (List.replicate n a) (List.replicate n b)
  | 0 => .nil
  | n + 1 => .cons h (paired_rep h n)
theorem len_items {rs : List Run} (h : ∀ r ∈ rs, 1 ≤ r.2 ∧ r.2 ≤ 1000) : (itR rs).length ≤ 1000 * rs.length := by
  induction rs with
  | nil => exact Nat.le_refl _
  | cons r t ih =>
    have e : itR (r :: t) = List.replicate r.2.toNat r.1 ++ itR t := rfl
    have h1 := h r (List.mem_cons_self ..)
    have h2 := ih fun x hx => h x (List.mem_cons_of_mem _ hx)
    rw [e, List.length_append, List.length_replicate, List.length_cons]
    omega
end UP

set_option Elab.async false
set_option linter.all false
set_option maxRecDepth 100000
set_option maxHeartbeats 4000000
namespace UP
open PySem PySem.Spec PyProof.Rows L2
section
variable {P : Program} {w : World} {K : PySem.W.Frag} {mg : Str → Option Value} {base : Heap}
/-! _law_play: slots 0:sequence 1:start 2:waiting 3:moments 4:pairs 5:kind 6:count 7:step 8:position -/
abbrev s_law_play : Stmt := topS 39
theorem sc_law_play : FnScope ["sequence", "start", "waiting", "moments", "pairs", "kind", "count", "step", "position"] ["sequence", "start"] (defScope s_law_play) := ⟨rfl, rfl, rfl, by decide +kernel, rfl, by decide +kernel, by decide +kernel⟩
def sp_law_play : Sp := fun vs H Q _ => ∃ (sv : V) (rs : List Run) (v : V) (st : Option Run), vs = [sv, v] ∧ RunsG H sv rs ∧ rs.length ≤ 400 ∧ (∀ r ∈ rs, KindOk r.1 ∧ 1 ≤ r.2 ∧ r.2 ≤ 1000) ∧ StV H v st ∧ StOk st ∧ (∀ r, st = some r → r.2 ≤ 1000) ∧
  ∀ H' p M N, Same H H' → H' p = some (.lst [.ref M, .ref N]) → (∃ xs, H' M = some (.lst xs) ∧ Paired (WL H' M N) xs (plMs (w0R st) (itR rs))) → (∃ ys, H' N = some (.lst ys) ∧ Paired (PV H') ys (psR (w0R st) 0 (itR rs))) → H M = none → H N = none → Q (.ref p) H'
theorem ok_law_play (D : Df K mg "_law_play" s_law_play) (T : Tx mg) : Has P w K mg base 1 "_law_play" ["sequence", "start"] sp_law_play := by
  refine has_of D sc_law_play (fun _ _ _ _ _ _ us hl => match us, hl with | [_, _], _ => rfl) (fun vs H Q E h => ?_) (fun f cdv A outer s H vs Q E hr h => ?_)
  · obtain ⟨_, _, _, _, rfl, _⟩ := h
    rfl
  · obtain ⟨sv, rs, v, st, rfl, ⟨a, xs, rfl, hx, hp⟩, l4, ok, hv, sok, sle, q⟩ := h
    have lx : xs.length = rs.length := Paired.len hp
    have w0len : (w0R st).length ≤ 1000 := by
      cases st with
      | none => exact Nat.zero_le _
      | some r =>
        have := sle r rfl
        show (List.replicate r.2.toNat (r.1, (-1 : Int))).length ≤ 1000
        rw [List.length_replicate]
        omega
    have w0k : ∀ r ∈ w0R st, KindOk r.1 := by
      cases st with
      | none => intro r h; cases h
      | some x =>
        intro r h
        rw [List.eq_of_mem_replicate h]
        exact (sok x rfl).1
    have itk : ∀ i, ∀ k ∈ itR (rs.take i), KindOk k := by
      intro i k hk
      obtain ⟨r, hr1, hr2⟩ := List.mem_flatMap.mp hk
      rw [List.eq_of_mem_replicate hr2]
      exact (ok r (List.mem_of_mem_take hr1)).1
    have itl : ∀ i, (itR (rs.take i)).length ≤ 1000 * 400 := by
      intro i
      have h1 := len_items (rs := rs.take i) fun r hr1 => (ok r (List.mem_of_mem_take hr1)).2
      rw [List.length_take] at h1
      omega
    refine ⟨_, (C8.pss_cut (ps_set (i := 2) sc_law_play.nd rfl (by first | exact Or.inl rfl | exact Or.inr rfl) (pe_ifExp (pt_cmpR op_isN (pv 1) pe_non (nomark _)) (pe_lst pa_nil) (pe_op op_rep (pe_lst (pa_cons (pe_tup (pa_cons (pe_ix ix_tup (pv 1) pe_int (fun _ _ => rfl)) (pa_cons (pe_un un_neg pe_int) pa_nil))) pa_nil)) (pe_ix ix_tup (pv 1) pe_int (fun _ _ => rfl)))))
    (pss_cons (ps_par (i := 3) (j := 4) (by rfl) sc_law_play.nd rfl rfl (by decide) rfl rfl (pa_cons (pe_lst (pa_cons (pv 2) pa_nil)) (pa_cons (pe_lst pa_nil) pa_nil)) (by rfl))
    (pss_cons (ps_for PassesOwn.never rfl (pi_seqA 0) (pg_any (n := 2) rfl (pgs_cons (pg_name (i := 5) sc_law_play.nd rfl (by first | exact Or.inl rfl | exact Or.inr rfl)) (pgs_cons (pg_name (i := 6) sc_law_play.nd rfl (by first | exact Or.inl rfl | exact Or.inr rfl)) pgs_nil)))
      (pss_one (ps_for PassesOwn.never rfl (pi_range1 (by rfl) T.n_range (pa_cons (pv 6) pa_nil)) (pg_name (i := 7) sc_law_play.nd rfl (by first | exact Or.inl rfl | exact Or.inr rfl))
      (pss_cons (ps_set (i := 8) sc_law_play.nd rfl (by first | exact Or.inl rfl | exact Or.inr rfl) (pe_op op_sub (pe_callB call_len_seq (by rfl) T.n_len (by decide +kernel) (pa_cons (pv 3) pa_nil)) pe_int))
    (C8.pss_cut (ps_if (PW.pt (pw_and (pt_cmpR (op_neD hr.units) (pv 2) (pe_lst pa_nil) (nomark _)) (pw_and1 (pt_cmpR op_ne (pe_ix ix_tup (pe_ix ix_list (pv 2) pe_int (fun _ _ => rfl)) pe_int (fun _ _ => rfl)) (pv 5) (nomark _))))) (pss_cons (ps_expr (pe_bm PySem.F.plainAttrs_list PySem.F.slot_list_append PySem.F.type_list_append mt_append (pv 4) (pa_cons (pe_tup (pa_cons (pe_ix ix_tup (pe_ix ix_list (pv 2) pe_int (fun _ _ => rfl)) pe_int (fun _ _ => rfl)) (pa_cons (pv 8) pa_nil))) pa_nil)))
    (pss_one (ps_set (i := 2) sc_law_play.nd rfl (by first | exact Or.inl rfl | exact Or.inr rfl) (pe_slice sl_list (pv 2) (po_some pe_int) po_none)))) (pss_one (ps_set (i := 2) sc_law_play.nd rfl (by first | exact Or.inl rfl | exact Or.inr rfl) (pe_op op_cat (pv 2) (pe_lst (pa_cons (pe_tup (pa_cons (pv 5) (pa_cons (pv 8) pa_nil))) pa_nil))))))
    (pss_one (ps_expr (pe_bm PySem.F.plainAttrs_list PySem.F.slot_list_append PySem.F.type_list_append mt_append (pv 3) (pa_cons (pv 2) pa_nil)))))))))
    (pss_one (ps_ret (pe_lst (pa_cons (pv 3) (pa_cons (pv 4) pa_nil)))))))), ?_⟩
    refine ⟨fun σ' H1 => ∃ W, σ' = [some (.ref a), some v, some (.ref W), none, none, none, none, none, none] ∧ Same H H1 ∧ Runs H1 W (w0R st), ?_, fun σ' H1 hM => ?_⟩
    · cases st with
      | none =>
        cases hv
        exact ⟨_, rfl, rfl, _, rfl, iteP rfl ⟨Nat.zero_le _, fun W nW => ⟨W, rfl, same_upd nW, [], upd_same, .nil⟩⟩⟩
      | some r =>
        obtain ⟨t, rfl, ht⟩ := hv
        have r1 := sok r rfl
        have r2 := sle r rfl
        refine ⟨_, rfl, rfl, _, rfl, iteN rfl ⟨_, rfl, t, _, 0, _, rfl, rfl, .of ht, at0, 1, rfl, (by show 2 ≤ sizeLine; decide), fun tn nt => ⟨(by show 1 ≤ sizeLine; decide), fun l nl => ?_⟩⟩⟩
        have s1 := (same_upd (o := .tup [.str r.1, .int (-1)]) nt).trans (same_upd (o := .lst [.ref tn]) nl)
        refine ⟨_, rfl, t, _, 1, _, rfl, rfl, .of (s1 _ _ ht), at1, l, r.2, [.ref tn], rfl, rfl, upd_same, by omega, by omega, ?_, fun W nW => ⟨W, rfl, s1.trans (same_upd nW), _, upd_same, ?_⟩⟩
        · show 1 * r.2.toNat ≤ sizeLine
          exact smallE (by omega)
        · rw [flat_one]
          refine paired_rep ⟨tn, rfl, ?_⟩ _
          exact same_upd nW _ _ (same_upd nl _ _ upd_same)
    obtain ⟨W0, rfl, s1, hW0⟩ := hM
    refine ⟨_, rfl, (by show 1 ≤ sizeLine; decide), fun M nM => ⟨Nat.zero_le _, fun N nN => ⟨_, _, rfl, ?_⟩⟩⟩
    have s2 := (same_upd (o := .lst [.ref W0]) nM).trans (same_upd (o := .lst []) nN)
    have nNM : N ≠ M := fun e => by rw [e, upd_same] at nN; cases nN
    have nN1 : H1 N = none := (same_upd nM).free nN
    have hMf : H M = none := s1.free nM
    have hNf : H N = none := s1.free nN1
    have wM : W0 ≠ M := by
      obtain ⟨xs0, e0, _⟩ := hW0
      exact ne_of_none e0 nM
    have wN : W0 ≠ N := by
      obtain ⟨xs0, e0, _⟩ := hW0
      exact ne_of_none e0 nN1
    have hMM : (upd (upd H1 M (.lst [.ref W0])) N (.lst [])) M = some (.lst [.ref W0]) := by
      rw [upd_ne nNM.symm, upd_same]
    have P0 : Pl H (upd (upd H1 M (.lst [.ref W0])) N (.lst [])) W0 M N (w0R st) (itR (rs.take 0)) (itR (rs.take 0)) :=
      ⟨s1.trans s2, wM, wN, hW0.same s2, ⟨_, hMM, .cons ⟨W0, rfl, wM, wN, hW0.same s2⟩ .nil⟩, ⟨_, upd_same, .nil⟩⟩
    refine ⟨a, xs, rfl, (hx.same s1).same s2, fun J wk => for_wka wk (fun i σ H' => ∃ W y5 y6 y7 y8, σ = [some (.ref a), some v, some (.ref W), some (.ref M), some (.ref N), y5, y6, y7, y8] ∧ Pl H H' W M N (w0R st) (itR (rs.take i)) (itR (rs.take i)))
      (fun i σ H' hP => ?_) ⟨W0, none, none, none, none, rfl, P0⟩ (fun i x σ H4 ex hP => ?_) (fun σ H4 hP => ?_)⟩
    · obtain ⟨_, _, _, _, _, _, pl⟩ := hP
      exact (hx.eq pl.sm).trans (hx.eq (s1.trans s2)).symm
    · obtain ⟨W, y5, y6, y7, y8, rfl, pl⟩ := hP
      obtain ⟨r, er, hr1⟩ := Paired.at hp ex
      obtain ⟨t, rfl, ht⟩ := RunG.same pl.sm hr1
      have rok := ok r (List.mem_of_getElem? er)
      have hi : i < xs.length := (List.getElem?_eq_some_iff.mp ex).1
      refine ⟨t, _, rfl, ht, rfl, _, _, rfl, _, _, rfl, rfl, ?_⟩
      refine ⟨_, rfl, r.2, rfl, by omega, by omega, for_range (lo := 0) (n := r.2.toNat) (fun j σ H' => ∃ W y7 y8 ks, ks = itR (rs.take i) ++ List.replicate j r.1 ∧ σ = [some (.ref a), some v, some (.ref W), some (.ref M), some (.ref N), some (.str r.1), some (.int r.2), y7, y8] ∧ Pl H H' W M N (w0R st) ks ks)
        ⟨W, _, _, itR (rs.take i), by rw [List.replicate_zero, List.append_nil], rfl, pl⟩ (fun j σ H5 hj hP => ?_) (fun σ H5 hP => ?_)⟩
      · obtain ⟨W, y7, y8, ks, ek, rfl, pl⟩ := hP
        obtain ⟨sm, wm, wn, ⟨zs, hz, hzp⟩, ⟨ms, hm, hmp⟩, ⟨ys, hn, hnp⟩⟩ := pl
        have ekl : ks.length ≤ 1000 * 400 + 1000 := by
          rw [ek, List.length_append, List.length_replicate]
          have := itl i
          omega
        have okk : ∀ k ∈ ks, KindOk k := by
          intro k hk
          rw [ek] at hk
          rcases List.mem_append.mp hk with z | z
          · exact itk i k z
          · rw [List.eq_of_mem_replicate z]
            exact rok.1
        have okw : ∀ z ∈ plA (w0R st) 0 ks, KindOk z.1 := plA_kinds w0k okk
        have lz : zs.length = (plA (w0R st) 0 ks).length := Paired.len hzp
        have lz2 : zs.length ≤ 500000 := by
          have := plA_len ks (w0R st) 0
          omega
        have lm : ms.length = ks.length + 1 := by rw [Paired.len hmp, plMs_len]
        have ek2 : itR (rs.take i) ++ List.replicate (j + 1) r.1 = ks ++ [r.1] := by rw [List.replicate_succ', ek, List.append_assoc]
        have ea : plA (w0R st) 0 (ks ++ [r.1]) = plS (plA (w0R st) 0 ks) r.1 ks.length := by rw [plA_snoc, Nat.zero_add]
        have ep : psR (w0R st) 0 (ks ++ [r.1]) = psR (w0R st) 0 ks ++ plP (plA (w0R st) 0 ks) r.1 ks.length := by rw [psR_snoc, Nat.zero_add]
        have lys : ys.length ≤ ks.length := by rw [Paired.len hnp]; exact psR_len _ _ _
        refine ⟨_, rfl, M, ms, rfl, .inl (.of hm), _, _, rfl, rfl, ?_⟩
        have epos : ((ms.length : Int) - 1) = (ks.length : Int) := by omega
        refine ⟨fun σ' H' => ∃ W', σ' = [some (.ref a), some v, some (.ref W'), some (.ref M), some (.ref N), some (.str r.1), some (.int r.2), some (.int (0 + j)), some (.int (ks.length : Int))] ∧ Pl H H' W' M N (w0R st) ks (ks ++ [r.1]), ?_, fun σ' H6 hM => ?_⟩
        · dsimp only
          rw [epos]
          refine ⟨_, rfl, Nat.zero_le _, fun e ne => ?_⟩
          have se : Same H5 (upd H5 e (.lst [])) := same_upd ne
          have hz1 := se _ _ hz
          have hzp1 := prs_same se hzp
          refine ⟨.list ((plA (w0R st) 0 ks).map dRun), .list [], .lst (.of hz1) (dp_all hzp1), .lst (.of upd_same) .nil, shaped_runs okw, shaped_nil, _, rfl, ?_⟩
          rw [eqv_nil]
          have addp : ∀ (H7 : Hp), Same H5 H7 → (∀ (tn : Addr), H7 tn = none → ∀ ln, (upd H7 tn (.tup [.str r.1, .int (ks.length : Int)])) ln = none → ∀ W', (upd (upd H7 tn (.tup [.str r.1, .int (ks.length : Int)])) ln (.lst [.ref tn])) W' = none →
              plS (plA (w0R st) 0 ks) r.1 ks.length = plA (w0R st) 0 ks ++ [(r.1, (ks.length : Int))] → plP (plA (w0R st) 0 ks) r.1 ks.length = [] →
              Pl H (upd (upd (upd H7 tn (.tup [.str r.1, .int (ks.length : Int)])) ln (.lst [.ref tn])) W' (.lst (zs ++ [.ref tn]))) W' M N (w0R st) ks (ks ++ [r.1])) := by
            intro H7 s7 tn nt ln nl W' nW e1 e2
            have sB := s7.trans ((same_upd (o := .tup [.str r.1, .int (ks.length : Int)]) nt).trans ((same_upd (o := .lst [.ref tn]) nl).trans (same_upd (o := .lst (zs ++ [.ref tn])) nW)))
            have sC := s7.trans ((same_upd (o := .tup [.str r.1, .int (ks.length : Int)]) nt).trans (same_upd (o := .lst [.ref tn]) nl))
            refine ⟨sm.trans sB, ?_, ?_, ⟨_, upd_same, ?_⟩, ⟨ms, sB _ _ hm, Paired.imp (fun _ _ z => z.same sB) hmp⟩, ⟨ys, sB _ _ hn, ?_⟩⟩
            · exact fun z => by rw [z, sC _ _ hm] at nW; cases nW
            · exact fun z => by rw [z, sC _ _ hn] at nW; cases nW
            · rw [ea, e1]
              exact Paired.app (prs_same sB hzp) (.cons ⟨tn, rfl, same_upd nW _ _ (same_upd nl _ _ upd_same)⟩ .nil)
            · rw [ep, e2, List.append_nil]
              exact Paired.imp (fun _ _ z => PV.same sB z) hnp
          cases ew : plA (w0R st) 0 ks with
          | nil =>
            rw [ew] at addp hzp
            cases hzp
            refine iteN rfl (iteF ?_)
            exact ⟨_, rfl, _, rfl, _, rfl, (by show 2 ≤ sizeLine; decide), fun tn nt => ⟨(by show 1 ≤ sizeLine; decide), fun ln nl => ⟨W, ln, [], [.ref tn], rfl, rfl, same_upd nl _ _ (same_upd nt _ _ hz1), upd_same, (by show 0 + 1 ≤ sizeLine; decide), fun W' nW => ⟨W', rfl, addp _ se tn nt ln nl W' nW rfl rfl⟩⟩⟩⟩
          | cons r0 t0 =>
            rw [ew] at addp hzp hzp1
            cases hzp1 with
            | @cons x0 _ xs1 _ h0 h1 =>
              obtain ⟨tx, rfl, htx⟩ := h0
              refine iteP rfl ⟨_, rfl, W, _, 0, _, rfl, rfl, .of hz1, atI_nat (j := 0) rfl, tx, _, 0, _, rfl, rfl, .of htx, at0, _, rfl, rfl, _, rfl, ?_⟩
              by_cases e1 : r0.1 = r.1
              · refine iteN (by rw [e1, decide_eq_true rfl]; rfl) ?_
                have p1 : plS (r0 :: t0) r.1 ks.length = (r0 :: t0) ++ [(r.1, (ks.length : Int))] := if_pos e1
                have p2 : plP (r0 :: t0) r.1 ks.length = [] := if_pos e1
                refine ⟨_, rfl, _, rfl, _, rfl, (by show 2 ≤ sizeLine; decide), fun tn nt => ⟨(by show 1 ≤ sizeLine; decide), fun ln nl => ⟨W, ln, _, [.ref tn], rfl, rfl, same_upd nl _ _ (same_upd nt _ _ hz1), upd_same, ?_, fun W' nW => ⟨W', rfl, addp _ se tn nt ln nl W' nW p1 p2⟩⟩⟩⟩
                exact smallE (by show (V.ref tx :: xs1).length + 1 ≤ _; omega)
              · have p1 : plS (r0 :: t0) r.1 ks.length = t0 := if_neg e1
                have p2 : plP (r0 :: t0) r.1 ks.length = [(r0.2, (ks.length : Int))] := if_neg e1
                refine iteP (by rw [decide_eq_false (fun z => e1 (V.str.inj z))]; rfl) ?_
                refine ⟨_, rfl, .inl ⟨rfl, _, SqL.of (se _ _ hn)⟩, _, rfl, W, _, 0, _, rfl, rfl, .of hz1, atI_nat (j := 0) rfl, tx, _, 1, _, rfl, rfl, .of htx, at1, _, rfl, (by show 2 ≤ sizeLine; decide), fun tn nt => ⟨N, _, _, rfl, rfl, same_upd nt _ _ (se _ _ hn), small (by omega), ?_⟩⟩
                have s6 := se.trans (same_upd (o := .tup [.int r0.2, .int (ks.length : Int)]) nt)
                have hn6 := s6 _ _ hn
                have hzN : (upd (upd (upd H5 e (.lst [])) tn (.tup [.int r0.2, .int (ks.length : Int)])) N (.lst (ys ++ [.ref tn]))) W = some (.lst (.ref tx :: xs1)) := by
                  rw [upd_ne wn]
                  exact s6 _ _ hz
                refine ⟨_, rfl, 1, rfl, W, _, rfl, .of hzN, fun W' nW => ⟨W', rfl, ?_⟩⟩
                have grow7 : ∀ (b : Addr) (ws : List Run), b ≠ N → Runs H5 b ws → Runs (upd (upd (upd (upd H5 e (.lst [])) tn (.tup [.int r0.2, .int (ks.length : Int)])) N (.lst (ys ++ [.ref tn]))) W' (.lst (cutV (.ref tx :: xs1) (some 1) none))) b ws := fun b ws nb hb => (Runs.grow hn6 nb (hb.same s6)).same (same_upd nW)
                refine ⟨?_, ?_, ?_, ⟨_, upd_same, ?_⟩, ⟨ms, ?_, Paired.imp (fun v' ws z => ?_) hmp⟩, ⟨ys ++ [.ref tn], ?_, ?_⟩⟩
                · intro b o eb
                  have nb : b ≠ N := ne_of_none eb hNf
                  refine same_upd nW _ _ ?_
                  rw [upd_ne nb]
                  exact s6 _ _ (sm _ _ eb)
                · exact fun z => by rw [z, upd_ne nNM.symm, s6 _ _ hm] at nW; cases nW
                · exact fun z => by rw [z, upd_same] at nW; cases nW
                · rw [ea, ew, p1, cutt_one]
                  show Paired _ xs1 t0
                  exact prs_same (same_upd nW) (prs_grow hn6 (prs_same (same_upd nt) h1))
                · refine same_upd nW _ _ ?_
                  rw [upd_ne nNM.symm]
                  exact s6 _ _ hm
                · obtain ⟨b, e9, n1, n2, hb⟩ := z
                  exact ⟨b, e9, n1, n2, grow7 b ws n2 hb⟩
                · exact same_upd nW _ _ upd_same
                · rw [ep, ew, p2]
                  refine Paired.app (Paired.imp (fun _ _ z => PV.same (same_upd nW) (PV.grow hn6 (PV.same s6 z))) hnp) (.cons ?_ .nil)
                  exact PV.same (same_upd nW) (PV.grow hn6 ⟨tn, rfl, upd_same⟩)
        · obtain ⟨W', rfl, pl⟩ := hM
          obtain ⟨sm, wm, wn, hW, ⟨ms, hm, hmp⟩, ⟨ys, hn, hnp⟩⟩ := pl
          have lm : ms.length = ks.length + 1 := by rw [Paired.len hmp, plMs_len]
          refine ⟨_, rfl, .inl ⟨rfl, _, SqL.of hm⟩, _, rfl, M, _, _, rfl, rfl, hm, small (by omega), W', _, _, _, ek2.symm, rfl, ?_⟩
          refine ⟨?_, wm, wn, Runs.grow hm wm hW, ⟨_, upd_same, ?_⟩, ⟨ys, ?_, Paired.imp (fun _ _ z => PV.grow hm z) hnp⟩⟩
          · intro b o eb
            rw [upd_ne (ne_of_none eb hMf)]
            exact sm b o eb
          · rw [plMs_snoc]
            refine Paired.app (Paired.imp (fun v' ws z => ?_) hmp) (.cons ⟨W', rfl, wm, wn, Runs.grow hm wm hW⟩ .nil)
            obtain ⟨b, e9, n1, n2, hb⟩ := z
            exact ⟨b, e9, n1, n2, Runs.grow hm n1 hb⟩
          · rw [upd_ne nNM]
            exact hn
      · obtain ⟨W, y7, y8, ks, ek, rfl, pl⟩ := hP
        have e2 : ks = itR (rs.take (i + 1)) := by rw [ek, take_snoc er, itR_snoc]
        rw [e2] at pl
        exact ⟨W, _, _, _, _, rfl, pl⟩
    · obtain ⟨W, y5, y6, y7, y8, rfl, pl⟩ := hP
      rw [lx, List.take_length] at pl
      obtain ⟨sm, wm, wn, hW, ⟨ms, hm, hmp⟩, ⟨ys, hn, hnp⟩⟩ := pl
      exact ⟨_, rfl, _, rfl, (by show 2 ≤ sizeLine; decide), fun p np => q _ p M N (sm.trans (same_upd np)) upd_same ⟨ms, same_upd np _ _ hm, Paired.imp (fun _ _ z => z.same (same_upd np)) hmp⟩ ⟨ys, same_upd np _ _ hn, Paired.imp (fun _ _ z => PV.same (same_upd np) z) hnp⟩ hMf hNf⟩
end
end UP

set_option Elab.async false
set_option linter.all false
set_option maxRecDepth 100000
set_option maxHeartbeats 4000000
namespace UP
open PySem PySem.Spec PyProof.Rows L2
/-! ### one arrival after the other -/
def stI (ks : List Str) (st : Option Run) : Option Run := ks.foldl (fun s k => stepR s k 1) st
theorem stI_app (l m : List Str) (st : Option Run) : stI (l ++ m) st = stI m (stI l st) := List.foldl_append ..
theorem step_same {r : Run} {k : Str} {c : Int} (h : r.1 = k) : stepR (some r) k c = some (k, r.2 + c) := if_pos h
theorem step_other {r : Run} {k : Str} {c : Int} (h : r.1 ≠ k) : stepR (some r) k c = if 0 < r.2 - c then some (r.1, r.2 - c) else if r.2 - c = 0 then none else some (k, -(r.2 - c)) := if_neg h
theorem step_step {s : Option Run} {k : Str} {c : Int} (h : PosO s) (hc : 1 ≤ c) : stepR (stepR s k 1) k c = stepR s k (1 + c) := by
  cases s with
  | none => exact step_same (r := (k, 1)) rfl
  | some r =>
    have r1 := h r rfl
    by_cases e : r.1 = k
    · rw [step_same e, step_same e, step_same (r := (k, r.2 + 1)) rfl]
      show some (k, r.2 + 1 + c) = _
      rw [Int.add_assoc]
    · rw [step_other e, step_other e]
      by_cases h1 : 0 < r.2 - 1
      · rw [if_pos h1, step_other (r := (r.1, r.2 - 1)) e]
        show (if 0 < r.2 - 1 - c then some (r.1, r.2 - 1 - c) else if r.2 - 1 - c = 0 then none else some (k, -(r.2 - 1 - c))) = _
        rw [show r.2 - 1 - c = r.2 - (1 + c) by omega]
      · have e2 : r.2 - 1 = 0 := by omega
        rw [if_neg h1, if_pos e2, if_neg (by omega), if_neg (by omega)]
        show some (k, c) = _
        rw [show -(r.2 - (1 + c)) = c by omega]
theorem it_step : ∀ (n : Nat) (s : Option Run) (k : Str), PosO s → stI (List.replicate (n + 1) k) s = stepR s k ((n : Int) + 1)
  | 0, s, k, _ => rfl
  | n + 1, s, k, h => by
    show stI (List.replicate (n + 1) k) (stepR s k 1) = _
    rw [it_step n _ k (stepR_pos h (by decide)), step_step h (by omega)]
    congr 1
    omega
theorem st_items : ∀ (rs : List Run) (st : Option Run), PosO st → (∀ r ∈ rs, 1 ≤ r.2) → stR rs st = stI (itR rs) st
  | [], st, _, _ => rfl
  | r :: t, st, h, k => by
    have c1 := k r (List.mem_cons_self ..)
    have e : itR (r :: t) = List.replicate r.2.toNat r.1 ++ itR t := rfl
    obtain ⟨n, hn⟩ : ∃ n : Nat, r.2.toNat = n + 1 := ⟨r.2.toNat - 1, by omega⟩
    rw [e, stI_app, hn, it_step n _ _ h, stR_cons, show ((n : Int) + 1) = r.2 by omega]
    exact st_items t _ (stepR_pos h c1) fun x hx => k x (List.mem_cons_of_mem _ hx)
theorem take_app {α : Type} : ∀ (l m : List α) (n : Nat), (l ++ m).take n = l.take n ++ m.take (n - l.length)
  | [], m, n => by
    rw [List.nil_append, List.take_nil, List.nil_append, List.length_nil, Nat.sub_zero]
  | x :: t, m, 0 => by
    rw [List.take_zero, List.take_zero, Nat.zero_sub, List.take_zero]
    rfl
  | x :: t, m, n + 1 => by
    rw [List.cons_append, List.take_succ_cons, take_app t m n, List.take_succ_cons, List.length_cons, Nat.add_sub_add_right]
    rfl
theorem it_app (l m : List Run) : itR (l ++ m) = itR l ++ itR m := List.flatMap_append ..
theorem cut_items (e : Int) : ∀ (rs : List Run) (b : Int), 0 ≤ b → (∀ r ∈ rs, 1 ≤ r.2) → itR (cutR 0 e b rs) = (itR rs).take (e - b).toNat
  | [], b, _, _ => by
    show ([] : List Str) = ([] : List Str).take _
    rw [List.take_nil]
  | r :: t, b, hb, k => by
    have c1 := k r (List.mem_cons_self ..)
    have ih := cut_items e t (b + r.2) (by omega) fun x hx => k x (List.mem_cons_of_mem _ hx)
    have e1 : cutR 0 e b (r :: t) = pieceR b 0 e r ++ cutR 0 e (b + r.2) t := rfl
    have e2 : itR (r :: t) = List.replicate r.2.toNat r.1 ++ itR t := rfl
    rw [e1, it_app, ih, e2, take_app, List.length_replicate, List.take_replicate, show (e - (b + r.2)).toNat = (e - b).toNat - r.2.toNat by omega]
    congr 1
    have es : sizeR b 0 e r.2 = (if b + r.2 < e then b + r.2 else e) - b := by
      unfold sizeR
      by_cases h0 : b > 0
      · rw [if_pos h0]
      · rw [if_neg h0, show b = 0 by omega]
    by_cases hs : 0 < sizeR b 0 e r.2
    · rw [show pieceR b 0 e r = [(r.1, sizeR b 0 e r.2)] from if_pos hs]
      show List.replicate (sizeR b 0 e r.2).toNat r.1 ++ [] = _
      rw [List.append_nil]
      congr 1
      rw [es] at hs ⊢
      split <;> omega
    · rw [show pieceR b 0 e r = [] from if_neg hs]
      rw [es] at hs
      rw [show min (e - b).toNat r.2.toNat = 0 by split at hs <;> omega]
      rfl
theorem len_it : ∀ (rs : List Run), (∀ r ∈ rs, 1 ≤ r.2) → ((itR rs).length : Int) = lenR rs
  | [], _ => rfl
  | r :: t, k => by
    have c1 := k r (List.mem_cons_self ..)
    have ih := len_it t fun x hx => k x (List.mem_cons_of_mem _ hx)
    have e2 : itR (r :: t) = List.replicate r.2.toNat r.1 ++ itR t := rfl
    rw [e2, List.length_append, List.length_replicate, lenR_cons]
    omega
/-! ### what is told of waiting items -/
def Uni (ws : List Run) : Prop := ∀ x ∈ ws, ∀ y ∈ ws, x.1 = y.1
theorem uni_plS {ws : List Run} {k : Str} {n : Nat} (h : Uni ws) : Uni (plS ws k n) := by
  cases ws with
  | nil =>
    intro x hx y hy
    rw [List.mem_singleton.mp (show x ∈ [(k, (n : Int))] from hx), List.mem_singleton.mp (show y ∈ [(k, (n : Int))] from hy)]
  | cons r t =>
    by_cases e : r.1 = k
    · rw [show plS (r :: t) k n = (r :: t) ++ [(k, (n : Int))] from if_pos e]
      have all : ∀ x ∈ (r :: t) ++ [(k, (n : Int))], x.1 = k := by
        intro x hx
        rcases List.mem_append.mp hx with z | z
        · rw [h x z r (List.mem_cons_self ..)]
          exact e
        · rw [List.mem_singleton.mp z]
      intro x hx y hy
      rw [all x hx, all y hy]
    · rw [show plS (r :: t) k n = t from if_neg e]
      exact fun x hx y hy => h x (List.mem_cons_of_mem _ hx) y (List.mem_cons_of_mem _ hy)
theorem told_plS {ws : List Run} {k : Str} {n : Nat} (h : Uni ws) : toldR (plS ws k n) = stepR (toldR ws) k 1 := by
  cases ws with
  | nil => rfl
  | cons r t =>
    by_cases e : r.1 = k
    · rw [show plS (r :: t) k n = (r :: t) ++ [(k, (n : Int))] from if_pos e]
      show some (r.1, (((r :: t) ++ [(k, (n : Int))]).length : Int)) = stepR (some (r.1, ((r :: t).length : Int))) k 1
      rw [step_same (r := (r.1, ((r :: t).length : Int))) e, List.length_append, e]
      show some (k, (((r :: t).length + 1 : Nat) : Int)) = some (k, ((r :: t).length : Int) + 1)
      rw [Int.natCast_add]
      rfl
    · rw [show plS (r :: t) k n = t from if_neg e]
      show toldR t = stepR (some (r.1, ((r :: t).length : Int))) k 1
      rw [step_other (r := (r.1, ((r :: t).length : Int))) e]
      cases t with
      | nil => rfl
      | cons x u =>
        have ex : x.1 = r.1 := h x (List.mem_cons_of_mem _ (List.mem_cons_self ..)) r (List.mem_cons_self ..)
        show some (x.1, ((x :: u).length : Int)) = if 0 < ((r :: x :: u).length : Int) - 1 then some (r.1, ((r :: x :: u).length : Int) - 1) else _
        rw [List.length_cons, List.length_cons, List.length_cons, if_pos (by omega), ex]
        congr 2
        omega
theorem told_plA : ∀ (l : List Str) (ws : List Run) (n : Nat), Uni ws → toldR (plA ws n l) = stI l (toldR ws)
  | [], _, _, _ => rfl
  | k :: t, ws, n, h => by
    show toldR (plA (plS ws k n) (n + 1) t) = stI t (stepR (toldR ws) k 1)
    rw [told_plA t _ _ (uni_plS h), told_plS h]
theorem uni_w0 (st : Option Run) : Uni (w0R st) := by
  cases st with
  | none => intro x hx; cases hx
  | some r =>
    intro x hx y hy
    rw [List.eq_of_mem_replicate hx, List.eq_of_mem_replicate hy]
theorem told_w0 {st : Option Run} (h : PosO st) : toldR (w0R st) = st := by
  cases st with
  | none => rfl
  | some r =>
    have r1 := h r rfl
    obtain ⟨n, hn⟩ : ∃ n : Nat, r.2.toNat = n + 1 := ⟨r.2.toNat - 1, by omega⟩
    show toldR (List.replicate r.2.toNat (r.1, (-1 : Int))) = some r
    rw [hn, List.replicate_succ]
    show some (r.1, (((r.1, (-1 : Int)) :: List.replicate n (r.1, (-1 : Int))).length : Int)) = some r
    rw [List.length_cons, List.length_replicate, show ((n + 1 : Nat) : Int) = r.2 by omega]
/-! ### all counts multiplied -/
def scO (t : Int) (st : Option Run) : Option Run := st.map fun r => (r.1, r.2 * t)
theorem lt_sc {a b t : Int} (ht : 0 < t) : a * t < b * t ↔ a < b :=
  ⟨fun h => by
    by_cases z : a < b
    · exact z
    · have := Int.mul_le_mul_of_nonneg_right (show b ≤ a by omega) (Int.le_of_lt ht)
      omega, fun h => Int.mul_lt_mul_of_pos_right h ht⟩
theorem size_sc {b s e c t : Int} (ht : 0 < t) : sizeR (b * t) (s * t) (e * t) (c * t) = sizeR b s e c * t := by
  unfold sizeR
  rw [← Int.add_mul, Int.sub_mul]
  congr 1
  · by_cases h : b + c < e
    · rw [if_pos h, if_pos ((lt_sc ht).mpr h)]
    · rw [if_neg h, if_neg fun z => h ((lt_sc ht).mp z)]
  · by_cases h : b > s
    · rw [if_pos h, if_pos ((lt_sc ht).mpr h)]
    · rw [if_neg h, if_neg fun z => h ((lt_sc ht).mp z)]
theorem pos_sc {a t : Int} (ht : 0 < t) : 0 < a * t ↔ 0 < a := by
  have := lt_sc (a := 0) (b := a) ht
  rw [Int.zero_mul] at this
  exact this
theorem piece_sc {b s e t : Int} {r : Run} (ht : 0 < t) : pieceR (b * t) (s * t) (e * t) (r.1, r.2 * t) = scR t (pieceR b s e r) := by
  unfold pieceR
  show (if 0 < sizeR (b * t) (s * t) (e * t) (r.2 * t) then [(r.1, sizeR (b * t) (s * t) (e * t) (r.2 * t))] else []) = _
  rw [size_sc ht]
  by_cases h : 0 < sizeR b s e r.2
  · rw [if_pos h, if_pos ((pos_sc ht).mpr h)]
    rfl
  · rw [if_neg h, if_neg fun z => h ((pos_sc ht).mp z)]
    rfl
theorem cut_sc {s e t : Int} (ht : 0 < t) : ∀ (rs : List Run) (b : Int), cutR (s * t) (e * t) (b * t) (scR t rs) = scR t (cutR s e b rs)
  | [], _ => rfl
  | r :: u, b => by
    have ih := cut_sc (s := s) (e := e) ht u (b + r.2)
    show pieceR (b * t) (s * t) (e * t) (r.1, r.2 * t) ++ cutR (s * t) (e * t) (b * t + r.2 * t) (scR t u) = scR t (pieceR b s e r ++ cutR s e (b + r.2) u)
    rw [← Int.add_mul, ih, piece_sc ht]
    unfold scR
    rw [List.map_append]
theorem step_sc {st : Option Run} {k : Str} {c t : Int} (ht : 0 < t) : stepR (scO t st) k (c * t) = scO t (stepR st k c) := by
  cases st with
  | none => rfl
  | some r =>
    show stepR (some (r.1, r.2 * t)) k (c * t) = _
    by_cases e : r.1 = k
    · rw [step_same (r := (r.1, r.2 * t)) e, step_same e]
      show some (k, r.2 * t + c * t) = some (k, (r.2 + c) * t)
      rw [Int.add_mul]
    · rw [step_other (r := (r.1, r.2 * t)) e, step_other e]
      show (if 0 < r.2 * t - c * t then some (r.1, r.2 * t - c * t) else if r.2 * t - c * t = 0 then none else some (k, -(r.2 * t - c * t))) = _
      rw [← Int.sub_mul]
      by_cases h : 0 < r.2 - c
      · rw [if_pos h, if_pos ((pos_sc ht).mpr h)]
        rfl
      · rw [if_neg h, if_neg fun z => h ((pos_sc ht).mp z)]
        by_cases h2 : r.2 - c = 0
        · rw [if_pos h2, h2, Int.zero_mul, if_pos rfl]
          rfl
        · have h3 : (r.2 - c) * t ≠ 0 := Int.mul_ne_zero h2 (by omega)
          rw [if_neg h2, if_neg h3]
          show some (k, -((r.2 - c) * t)) = some (k, -(r.2 - c) * t)
          rw [Int.neg_mul]
theorem st_sc {t : Int} (ht : 0 < t) : ∀ (rs : List Run) (st : Option Run), stR (scR t rs) (scO t st) = scO t (stR rs st)
  | [], _ => rfl
  | r :: u, st => by
    show stR (scR t u) (stepR (scO t st) r.1 (r.2 * t)) = scO t (stR u (stepR st r.1 r.2))
    rw [step_sc ht, st_sc ht u]
theorem len_sc {t : Int} : ∀ (rs : List Run), lenR (scR t rs) = lenR rs * t
  | [] => by
    show (0 : Int) = 0 * t
    rw [Int.zero_mul]
  | r :: u => by
    show lenR ((r.1, r.2 * t) :: scR t u) = _
    rw [lenR_cons, lenR_cons, len_sc u, Int.add_mul]
/-- the multiplied state at a multiplied moment -/
theorem whole_sc {t : Int} {rs : List Run} {st : Option Run} {p : Nat} (ht : 0 < t) (h : PosO st) (k : ∀ r ∈ rs, 1 ≤ r.2) :
    stR (cutR 0 ((p : Int) * t) 0 (scR t rs)) (scO t st) = scO t (toldR (plA (w0R st) 0 ((itR rs).take p))) := by
  have e := cut_sc (s := 0) (e := (p : Int)) ht rs 0
  rw [Int.zero_mul] at e
  rw [e, st_sc ht, told_plA _ _ _ (uni_w0 st), told_w0 h, st_items _ _ h cutR_pos, cut_items _ _ _ (Int.le_refl _) k, Int.sub_zero, Int.toNat_natCast]
end UP

set_option Elab.async false
set_option linter.all false
set_option maxRecDepth 100000
set_option maxHeartbeats 4000000
namespace UP
open PySem PySem.Spec PyProof.Rows L2
theorem room70 {A : Around} {k : Nat} (hr : Room k A) : A.units + 70 < cLine := by
  have := hr.un
  omega
theorem call_list_ofK {X : Cx} {K : PySem.W.Frag} (h : X.K = K) : CallR X (.type "list") (fun xs H Q => ∃ p ys, xs = [.ref p] ∧ (SqL K H p ys ∨ SqT K H p ys) ∧ ∀ l, H l = none → Q (.ref l) (upd H l (.lst ys))) := by
  subst h
  exact call_list_of
/-! ### data that a repr takes -/
structure Nice (w n : Nat) (d : PyData) : Prop where
  can : d.canLay0 = true
  dep : d.depth ≤ n
  sho : d.showable = true
  lea : d.leavesShort 100 = true
  wei : d.weight ≤ w
theorem Nice.mono {w w' n n' : Nat} {d : PyData} (h : Nice w n d) (h1 : w ≤ w') (h2 : n ≤ n') : Nice w' n' d := ⟨h.can, Nat.le_trans h.dep h2, h.sho, h.lea, Nat.le_trans h.wei h1⟩
theorem Nice.fits {w n : Nat} {d : PyData} (h : Nice w n d) (hw : w ≤ 150000) (hn : n ≤ 64) : d.showable = true ∧ SeqAt.shaped d = true ∧ d.shown.length ≤ sizeLine := by
  refine ⟨h.sho, ?_, ?_⟩
  · unfold SeqAt.shaped
    rw [h.can]
    have := h.dep
    exact decide_eq_true (by omega)
  · have h1 := PyData.shown_le 100 (by decide) d h.lea
    have h2 := h.wei
    have h3 : d.shown.length ≤ 16000000 := by omega
    exact Nat.le_trans h3 (by decide)
theorem nice_none : Nice 0 0 .none := ⟨rfl, Nat.le_refl _, rfl, rfl, Nat.le_refl _⟩
theorem nice_str {s : Str} (h : KindOk s) : Nice 8 0 (.str s) := by
  refine ⟨?_, Nat.le_refl _, rfl, ?_, h.2.1⟩
  · rw [PyData.canLay0]
    exact h.str
  · rw [PyData.leavesShort, List.all_eq_true]
    intro c hc
    have := h.2.2 c hc
    exact decide_eq_true (by omega)
theorem nice_int {i : Int} (h : i.natAbs < 10 ^ 60) : Nice 201 0 (.int i) := by
  have h2 : i.natAbs < 2 ^ 200 := Nat.lt_of_lt_of_le h (by decide)
  have h3 : i.natAbs.log2 < 200 := by
    by_cases z : i.natAbs = 0
    · rw [z]
      decide
    · exact (Nat.log2_lt z).mpr h2
  refine ⟨by rw [PyData.canLay0], Nat.le_refl _, ?_, ?_, ?_⟩
  · rw [PyData.showable]
    exact decide_eq_true (by omega)
  · rw [PyData.leavesShort]
    refine decide_eq_true ?_
    have e := int_text_length_le10 (k := 60) (by decide) h
    show (Str.ofString (toString i)).length ≤ 100
    rw [PySem.ofString_length]
    omega
  · rw [PyData.weight]
    split <;> omega
theorem nice_items {w n : Nat} : ∀ {ds : List PyData}, (∀ d ∈ ds, Nice w n d) → PyData.canLayAll0 ds = true ∧ PyData.depthAll ds ≤ n ∧ PyData.showableAll ds = true ∧ PyData.leavesShortAll 100 ds = true ∧ PyData.weightAll ds ≤ (w + 1) * ds.length
  | [], _ => ⟨rfl, Nat.zero_le _, rfl, rfl, Nat.zero_le _⟩
  | d :: t, h => by
    have h1 := h d (List.mem_cons_self ..)
    obtain ⟨a, b, c, e, f⟩ := nice_items (ds := t) fun x hx => h x (List.mem_cons_of_mem _ hx)
    refine ⟨?_, ?_, ?_, ?_, ?_⟩
    · rw [PyData.canLayAll0, h1.can, a]
      rfl
    · rw [PyData.depthAll]
      exact Nat.max_le.mpr ⟨h1.dep, b⟩
    · rw [PyData.showableAll, h1.sho, c]
      rfl
    · rw [PyData.leavesShortAll, h1.lea, e]
      rfl
    · have h2 := h1.wei
      rw [PyData.weightAll, List.length_cons, Nat.mul_succ]
      omega
theorem nice_list {w n : Nat} {ds : List PyData} (h : ∀ d ∈ ds, Nice w n d) : Nice ((w + 1) * ds.length) (n + 1) (.list ds) := by
  obtain ⟨a, b, c, e, f⟩ := nice_items h
  exact ⟨by rw [PyData.canLay0]; exact a, by rw [PyData.depth]; omega, by rw [PyData.showable]; exact c, by rw [PyData.leavesShort]; exact e, by rw [PyData.weight]; exact f⟩
theorem nice_tup {w n : Nat} {ds : List PyData} (h : ∀ d ∈ ds, Nice w n d) : Nice ((w + 1) * ds.length) (n + 1) (.tuple ds) := by
  obtain ⟨a, b, c, e, f⟩ := nice_items h
  exact ⟨by rw [PyData.canLay0]; exact a, by rw [PyData.depth]; omega, by rw [PyData.showable]; exact c, by rw [PyData.leavesShort]; exact e, by rw [PyData.weight]; exact f⟩
/-- v stands for d at H and at every heap that keeps H -/
def DpS (K : PySem.W.Frag) (H : Hp) (v : V) (d : PyData) : Prop := ∀ H', Same H H' → Dp K H' v d
theorem DpS.same {K : PySem.W.Frag} {H H' : Hp} {v : V} {d : PyData} (s : Same H H') (h : DpS K H v d) : DpS K H' v d := fun H2 s2 => h H2 (s.trans s2)
theorem dps_all {K : PySem.W.Frag} {H : Hp} {F : PyData → Prop} : ∀ {xs : List V}, (∀ x ∈ xs, ∃ d, DpS K H x d ∧ F d) → ∃ ds, (∀ H', Same H H' → DpAll K H' xs ds) ∧ ds.length = xs.length ∧ ∀ d ∈ ds, F d
  | [], _ => ⟨[], fun _ _ => .nil, rfl, fun d h => by cases h⟩
  | x :: t, h => by
    obtain ⟨d, h1, h2⟩ := h x (List.mem_cons_self ..)
    obtain ⟨ds, a, b, c⟩ := dps_all (xs := t) fun y hy => h y (List.mem_cons_of_mem _ hy)
    refine ⟨d :: ds, fun H' s => .cons (h1 H' s) (a H' s), congrArg Nat.succ b, fun z hz => ?_⟩
    rcases List.mem_cons.mp hz with e | e
    · rw [e]
      exact h2
    · exact c z e
theorem dps_seq {K : PySem.W.Frag} {H : Hp} {a : Addr} {xs : List V} {w n : Nat} (hx : Sq2 H a xs) (h : ∀ x ∈ xs, ∃ d, DpS K H x d ∧ Nice w n d) : ∃ d, DpS K H (.ref a) d ∧ Nice ((w + 1) * xs.length) (n + 1) d := by
  obtain ⟨ds, h1, h2, h3⟩ := dps_all h
  rcases hx with z | z
  · exact ⟨.list ds, fun H' s => .lst (.of (s _ _ z)) (h1 H' s), by rw [← h2]; exact nice_list h3⟩
  · exact ⟨.tuple ds, fun H' s => .tup (.of (s _ _ z)) (h1 H' s), by rw [← h2]; exact nice_tup h3⟩
theorem dps_run {K : PySem.W.Frag} {H : Hp} {v : V} {r : Run} (h : RunG H v r) (k : KindOk r.1) (c : r.2.natAbs < 10 ^ 60) : ∃ d, DpS K H v d ∧ Nice 404 1 d := by
  obtain ⟨t, rfl, h⟩ := h
  have := dps_seq (K := K) (w := 201) (n := 0) h fun x hx => by
    rcases List.mem_cons.mp hx with e | e
    · rw [e]
      exact ⟨.str r.1, fun _ _ => .str _, (nice_str k).mono (by decide) (Nat.le_refl _)⟩
    · rw [List.mem_singleton.mp e]
      exact ⟨.int r.2, fun _ _ => .int _, nice_int c⟩
  exact this
theorem dps_runs {K : PySem.W.Frag} {H : Hp} {v : V} {rs : List Run} (h : RunsG H v rs) (k : ∀ r ∈ rs, KindOk r.1 ∧ r.2.natAbs < 10 ^ 60) (l : rs.length ≤ 100) : ∃ d, DpS K H v d ∧ Nice 41000 2 d := by
  obtain ⟨a, xs, rfl, hx, hp⟩ := h
  have lx : xs.length = rs.length := Paired.len hp
  obtain ⟨d, h1, h2⟩ := dps_seq (K := K) (w := 404) (n := 1) hx fun x hx => by
    obtain ⟨i, hi, e⟩ := List.mem_iff_getElem.mp hx
    obtain ⟨r, er, hr⟩ := Paired.at hp (List.getElem?_eq_getElem hi)
    rw [e] at hr
    have := k r (List.mem_of_getElem? er)
    exact dps_run hr this.1 this.2
  exact ⟨d, h1, h2.mono (by rw [lx]; omega) (Nat.le_refl _)⟩
theorem dps_st {K : PySem.W.Frag} {H : Hp} {v : V} {st : Option Run} (h : StG H v st) (k : ∀ r, st = some r → KindOk r.1 ∧ r.2.natAbs < 10 ^ 60) : ∃ d, DpS K H v d ∧ Nice 41000 2 d := by
  cases st with
  | none =>
    cases h
    exact ⟨.none, fun _ _ => .non, nice_none.mono (by decide) (by decide)⟩
  | some r =>
    obtain ⟨d, h1, h2⟩ := dps_run (K := K) h (k r rfl).1 (k r rfl).2
    exact ⟨d, h1, h2.mono (by decide) (by decide)⟩
theorem dps_two {K : PySem.W.Frag} {H : Hp} {a : Addr} {x y : V} (h : H a = some (.lst [x, y])) (hx : ∃ d, DpS K H x d ∧ Nice 41000 2 d) (hy : ∃ d, DpS K H y d ∧ Nice 41000 2 d) : ∃ d, DpS K H (.ref a) d ∧ Nice 82002 3 d := by
  have := dps_seq (K := K) (a := a) (xs := [x, y]) (w := 41000) (n := 2) (.inl h) fun z hz => by
    rcases List.mem_cons.mp hz with e | e
    · rw [e]
      exact hx
    · rw [List.mem_singleton.mp e]
      exact hy
  exact this
/-! ### dressed and undressed -/
def dP (r : Run) : PyData := .list [.str r.1, .int r.2]
def dSq (rs : List Run) : PyData := .list (rs.map dP)
def dSt : Option Run → PyData
  | none => .none
  | some r => dP r
theorem sim_pair {N : Addr → Prop} {H : Hp} {n : Nat} (r : Run) : Paired (Sim N H n) [V.str r.1, V.int r.2] [PyData.str r.1, PyData.int r.2] := .cons (Sim.dsc (.inr (.inr (.inr ⟨_, rfl, rfl⟩)))) (.cons (Sim.dsc (.inr (.inr (.inl ⟨_, rfl, rfl⟩)))) .nil)
theorem sim_run {H : Hp} {sp : Addr} {v : V} {r : Run} {n : Nat} (z : Spr H sp) (h : RunV H v r) : Sim (· ≠ sp) H (n + 1) v (dP r) := by
  obtain ⟨t, rfl, h⟩ := h
  obtain ⟨_, _, _, hs, _⟩ := z
  exact .inr ⟨t, _, _, rfl, ne_of h hs (by intro q; cases q), .inr h, rfl, sim_pair r, Nat.le_of_ble_eq_true rfl⟩
theorem sim_seq {H : Hp} {sp a : Addr} {rs : List Run} (z : Spr H sp) (h : Runs H a rs) (l : rs.length ≤ 1000) : Sim (· ≠ sp) H 2 (.ref a) (dSq rs) := by
  have na := Runs.ne z h
  obtain ⟨xs, hx, hp⟩ := h
  refine .inr ⟨a, xs, _, rfl, na, .inl hx, rfl, ?_, by rw [List.length_map]; exact l⟩
  have gen : ∀ {xs : List V} {rs : List Run}, Paired (RunV H) xs rs → Paired (Sim (· ≠ sp) H 1) xs (rs.map dP) := by
    intro xs rs h
    induction h with
    | nil => exact .nil
    | cons h _ ih => exact .cons (sim_run z h) ih
  exact gen hp
theorem sim_st {H : Hp} {sp : Addr} {v : V} {st : Option Run} (z : Spr H sp) (h : StV H v st) : Sim (· ≠ sp) H 2 v (dSt st) := by
  cases st with
  | none =>
    cases h
    exact .inl (.inl ⟨rfl, rfl⟩)
  | some r => exact sim_run z h
theorem sim_one {N : Addr → Prop} {H : Hp} {n : Nat} {v : V} {r : Run} (h : Sim N H (n + 1) v (dP r)) : RunG H v r := by
  rcases h with h | ⟨a, xs, ds, rfl, _, hx, e, p, _⟩
  · exact (dsc_lst h).elim
  · cases e
    have scal : ∀ {m : Nat} {x : V} {s : Str}, Sim N H m x (.str s) → x = .str s := by
      intro m x s h
      have h : Dsc x (.str s) := by
        cases m with
        | zero => exact h
        | succ m =>
          rcases h with h | ⟨_, _, _, _, _, _, e, _⟩
          · exact h
          · cases e
      rcases h with ⟨_, e⟩ | ⟨_, _, e⟩ | ⟨_, _, e⟩ | ⟨y, e1, e⟩ <;> cases e
      exact e1
    have scai : ∀ {m : Nat} {x : V} {s : Int}, Sim N H m x (.int s) → x = .int s := by
      intro m x s h
      have h : Dsc x (.int s) := by
        cases m with
        | zero => exact h
        | succ m =>
          rcases h with h | ⟨_, _, _, _, _, _, e, _⟩
          · exact h
          · cases e
      rcases h with ⟨_, e⟩ | ⟨_, _, e⟩ | ⟨y, e1, e⟩ | ⟨_, _, e⟩ <;> cases e
      exact e1
    cases p with
    | cons h1 p1 =>
      cases p1 with
      | cons h2 p2 =>
        cases p2
        rw [scal h1, scai h2] at hx
        exact ⟨a, rfl, hx⟩
theorem sim_all {N : Addr → Prop} {H : Hp} : ∀ (rs : List Run) (xs : List V), Paired (Sim N H 1) xs (rs.map dP) → Paired (RunG H) xs rs
  | [], xs, h => by
    cases h
    exact .nil
  | r :: t, xs, h => by
    cases h with
    | cons h1 h2 => exact .cons (sim_one h1) (sim_all t _ h2)
theorem sim_runs {N : Addr → Prop} {H : Hp} {v : V} {rs : List Run} (h : Sim N H 2 v (dSq rs)) : RunsG H v rs := by
  rcases h with h | ⟨a, xs, ds, rfl, _, hx, e, p, _⟩
  · exact (dsc_lst h).elim
  · cases e
    refine ⟨a, xs, rfl, hx, ?_⟩
    exact sim_all rs xs p
theorem sim_stg {N : Addr → Prop} {H : Hp} {v : V} {st : Option Run} (h : Sim N H 2 v (dSt st)) : StG H v st := by
  cases st with
  | none =>
    rcases h with h | ⟨_, _, _, _, _, _, e, _⟩
    · rcases h with ⟨e, _⟩ | ⟨_, _, e⟩ | ⟨_, _, e⟩ | ⟨_, _, e⟩
      · exact e
      all_goals cases e
    · cases e
  | some r => exact sim_one h
/-! ### one by one -/
theorem at_moment {rs : List Run} {st : Option Run} {m : Nat} (h : PosO st) (k : ∀ r ∈ rs, 1 ≤ r.2) : stR (cutR 0 (m : Int) 0 rs) st = toldR (plA (w0R st) 0 ((itR rs).take m)) := by
  rw [told_plA _ _ _ (uni_w0 st), told_w0 h, st_items _ _ h cutR_pos, cut_items _ _ _ (Int.le_refl _) k, Int.sub_zero, Int.toNat_natCast]
theorem at_end {rs : List Run} {st : Option Run} (h : PosO st) (k : ∀ r ∈ rs, 1 ≤ r.2) : stR rs st = toldR (plA (w0R st) 0 (itR rs)) := by
  rw [told_plA _ _ _ (uni_w0 st), told_w0 h, st_items _ _ h k]
theorem plMs_get (ws : List Run) (ks : List Str) {n : Nat} (h : n ≤ ks.length) : (plMs ws ks)[n]? = some (plA ws 0 (ks.take n)) := by
  unfold plMs
  rw [List.getElem?_map, List.getElem?_range (by omega)]
  rfl
def dO : Option Run → PyData
  | none => .none
  | some r => dRun r
theorem dt_st {H : Hp} {v : V} {st : Option Run} {n : Nat} (h : StV H v st) : Dt H (n + 1) v (dO st) := by
  cases st with
  | none =>
    cases h
    exact .inl (.inl ⟨rfl, rfl⟩)
  | some r =>
    obtain ⟨t, rfl, h⟩ := h
    refine .inr (.inr ⟨t, _, _, rfl, h, rfl, .cons ?_ (.cons ?_ .nil), Nat.le_of_ble_eq_true rfl⟩)
    · cases n with
      | zero => exact .inr (.inr (.inr ⟨_, rfl, rfl⟩))
      | succ m => exact .inl (.inr (.inr (.inr ⟨_, rfl, rfl⟩)))
    · cases n with
      | zero => exact .inr (.inr (.inl ⟨_, rfl, rfl⟩))
      | succ m => exact .inl (.inr (.inr (.inl ⟨_, rfl, rfl⟩)))
theorem w0_len {st : Option Run} (h : ∀ r, st = some r → r.2 ≤ 1000) : (w0R st).length ≤ 1000 := by
  cases st with
  | none => exact Nat.zero_le _
  | some r =>
    have := h r rfl
    show (List.replicate r.2.toNat (r.1, (-1 : Int))).length ≤ 1000
    rw [List.length_replicate]
    omega
theorem w0_kinds {st : Option Run} (h : StOk st) : ∀ r ∈ w0R st, KindOk r.1 := by
  cases st with
  | none => intro r h; cases h
  | some x =>
    intro r hr
    rw [List.eq_of_mem_replicate hr]
    exact (h x rfl).1
theorem it_kinds {rs : List Run} (h : ∀ r ∈ rs, KindOk r.1) : ∀ k ∈ itR rs, KindOk k := by
  intro k hk
  obtain ⟨r, h1, h2⟩ := List.mem_flatMap.mp hk
  rw [List.eq_of_mem_replicate h2]
  exact h r h1
end UP

set_option Elab.async false
set_option linter.all false
set_option maxRecDepth 100000
set_option maxHeartbeats 4000000
namespace UP
open PySem PySem.Spec PyProof.Rows L2
abbrev Rg := Int × Int
/-! ### ranges without their first positions -/
def rmR (p : Rg) (n : Int) : Int := if p.2 - p.1 + 1 < n then p.2 - p.1 + 1 else n
def wfP (p : Rg) (n : Int) : List Rg := if p.1 + rmR p n ≤ p.2 then [(p.1 + rmR p n, p.2)] else []
def wfR : List Rg → Int → List Rg
  | [], _ => []
  | p :: t, n => wfP p n ++ wfR t (n - rmR p n)
/-- the number that is left to be removed behind some ranges -/
def wfN : List Rg → Int → Int
  | [], n => n
  | p :: t, n => wfN t (n - rmR p n)
theorem wfN_snoc : ∀ (l : List Rg) (p : Rg) (n : Int), wfN (l ++ [p]) n = wfN l n - rmR p (wfN l n)
  | [], _, _ => rfl
  | x :: t, p, n => wfN_snoc t p (n - rmR x n)
theorem wfR_snoc : ∀ (l : List Rg) (p : Rg) (n : Int), wfR (l ++ [p]) n = wfR l n ++ wfP p (wfN l n)
  | [], p, n => by
    show wfP p n ++ [] = [] ++ wfP p n
    rw [List.append_nil, List.nil_append]
  | x :: t, p, n => by
    show wfP x n ++ wfR (t ++ [p]) (n - rmR x n) = (wfP x n ++ wfR t (n - rmR x n)) ++ wfP p (wfN t (n - rmR x n))
    rw [wfR_snoc t, List.append_assoc]
def adP (st : Option Run) (b : Int) (r : Run) : List Rg := if leavR st r.1 r.2 < r.2 then [(b + leavR st r.1 r.2, b + r.2 - 1)] else []
def waR : List Run → Option Run → Int → List Rg → List Rg
  | [], _, _, R => R
  | r :: t, st, b, R => waR t (stepR st r.1 r.2) (b + r.2) (wfR R (leavR st r.1 r.2) ++ adP st b r)
theorem waR_snoc : ∀ (l : List Run) (r : Run) (st : Option Run) (b : Int) (R : List Rg), waR (l ++ [r]) st b R = wfR (waR l st b R) (leavR (stR l st) r.1 r.2) ++ adP (stR l st) (b + lenR l) r
  | [], r, st, b, R => by
    show wfR R (leavR st r.1 r.2) ++ adP st b r = wfR R (leavR st r.1 r.2) ++ adP st (b + lenR []) r
    rw [lenR_nil, Int.add_zero]
  | x :: t, r, st, b, R => by
    show waR (t ++ [r]) (stepR st x.1 x.2) (b + x.2) (wfR R (leavR st x.1 x.2) ++ adP st b x) = wfR (waR t (stepR st x.1 x.2) (b + x.2) (wfR R (leavR st x.1 x.2) ++ adP st b x)) (leavR (stR (x :: t) st) r.1 r.2) ++ adP (stR (x :: t) st) (b + lenR (x :: t)) r
    rw [waR_snoc t, stR_cons, lenR_cons, Int.add_assoc]
/-! ### all counts multiplied -/
def scP (t : Int) (R : List Rg) : List Rg := R.map fun p => (p.1 * t, p.2 * t + t - 1)
theorem le_sc {a b t : Int} (ht : 0 < t) : a * t ≤ b * t ↔ a ≤ b := by
  have := lt_sc (a := b) (b := a) ht
  exact ⟨fun z => by
    by_cases q : b < a
    · have := this.mpr q
      omega
    · omega, fun z => Int.mul_le_mul_of_nonneg_right z (by omega)⟩
theorem last_sc {a b t : Int} (ht : 0 < t) : a * t ≤ b * t + t - 1 ↔ a ≤ b := by
  have e : (b + 1) * t = b * t + t := by rw [Int.add_mul, Int.one_mul]
  have := lt_sc (a := a) (b := b + 1) ht
  rw [e] at this
  exact ⟨fun z => by have := this.mp (by omega); omega, fun z => by have := this.mpr (by omega); omega⟩
theorem rm_sc {p : Rg} {n t : Int} (ht : 0 < t) : rmR (p.1 * t, p.2 * t + t - 1) (n * t) = rmR p n * t := by
  unfold rmR
  have e : (p.2 * t + t - 1) - p.1 * t + 1 = (p.2 - p.1 + 1) * t := by
    rw [Int.add_mul, Int.sub_mul, Int.one_mul]
    omega
  show (if (p.2 * t + t - 1) - p.1 * t + 1 < n * t then (p.2 * t + t - 1) - p.1 * t + 1 else n * t) = _
  rw [e]
  by_cases g : p.2 - p.1 + 1 < n
  · rw [if_pos g, if_pos ((lt_sc ht).mpr g)]
  · rw [if_neg g, if_neg fun z => g ((lt_sc ht).mp z)]
theorem wfP_sc {p : Rg} {n t : Int} (ht : 0 < t) : wfP (p.1 * t, p.2 * t + t - 1) (n * t) = scP t (wfP p n) := by
  unfold wfP
  rw [rm_sc ht]
  show (if p.1 * t + rmR p n * t ≤ p.2 * t + t - 1 then [(p.1 * t + rmR p n * t, p.2 * t + t - 1)] else []) = _
  rw [← Int.add_mul]
  by_cases g : p.1 + rmR p n ≤ p.2
  · rw [if_pos g, if_pos ((last_sc ht).mpr g)]
    rfl
  · rw [if_neg g, if_neg fun z => g ((last_sc ht).mp z)]
    rfl
theorem wfR_sc {t : Int} (ht : 0 < t) : ∀ (R : List Rg) (n : Int), wfR (scP t R) (n * t) = scP t (wfR R n)
  | [], _ => rfl
  | p :: u, n => by
    show wfP (p.1 * t, p.2 * t + t - 1) (n * t) ++ wfR (scP t u) (n * t - rmR (p.1 * t, p.2 * t + t - 1) (n * t)) = scP t (wfP p n ++ wfR u (n - rmR p n))
    rw [wfP_sc ht, rm_sc ht, ← Int.sub_mul, wfR_sc ht u]
    unfold scP
    rw [List.map_append]
theorem leav_sc {st : Option Run} {k : Str} {c t : Int} (ht : 0 < t) : leavR (scO t st) k (c * t) = leavR st k c * t := by
  cases st with
  | none =>
    show (0 : Int) = 0 * t
    rw [Int.zero_mul]
  | some x =>
    show (if x.1 = k then 0 else if c * t < x.2 * t then c * t else x.2 * t) = (if x.1 = k then 0 else if c < x.2 then c else x.2) * t
    by_cases e : x.1 = k
    · rw [if_pos e, if_pos e, Int.zero_mul]
    · rw [if_neg e, if_neg e]
      by_cases g : c < x.2
      · rw [if_pos g, if_pos ((lt_sc ht).mpr g)]
      · rw [if_neg g, if_neg fun z => g ((lt_sc ht).mp z)]
theorem adP_sc {st : Option Run} {b t : Int} {r : Run} (ht : 0 < t) : adP (scO t st) (b * t) (r.1, r.2 * t) = scP t (adP st b r) := by
  unfold adP
  rw [leav_sc ht]
  by_cases g : leavR st r.1 r.2 < r.2
  · rw [if_pos g, if_pos ((lt_sc ht).mpr g)]
    show [(b * t + leavR st r.1 r.2 * t, b * t + r.2 * t - 1)] = [((b + leavR st r.1 r.2) * t, (b + r.2 - 1) * t + t - 1)]
    rw [← Int.add_mul, ← Int.add_mul, Int.sub_mul, Int.one_mul]
    congr 2
    omega
  · rw [if_neg g, if_neg fun z => g ((lt_sc ht).mp z)]
    rfl
theorem waR_sc {t : Int} (ht : 0 < t) : ∀ (rs : List Run) (st : Option Run) (b : Int) (R : List Rg), waR (scR t rs) (scO t st) (b * t) (scP t R) = scP t (waR rs st b R)
  | [], _, _, _ => rfl
  | r :: u, st, b, R => by
    show waR (scR t u) (stepR (scO t st) r.1 (r.2 * t)) (b * t + r.2 * t) (wfR (scP t R) (leavR (scO t st) r.1 (r.2 * t)) ++ adP (scO t st) (b * t) (r.1, r.2 * t)) = scP t (waR u (stepR st r.1 r.2) (b + r.2) (wfR R (leavR st r.1 r.2) ++ adP st b r))
    rw [step_sc ht, ← Int.add_mul, leav_sc ht, wfR_sc ht, adP_sc ht]
    have e : scP t (wfR R (leavR st r.1 r.2)) ++ scP t (adP st b r) = scP t (wfR R (leavR st r.1 r.2) ++ adP st b r) := by
      unfold scP
      rw [List.map_append]
    rw [e, waR_sc ht u]
/-! ### the ranges of positions -/
def rgS (t : Int) (F : List Rg) (p : Int) : List Rg := match F.getLast? with
  | none => F ++ [(p * t, p * t + t - 1)]
  | some l => if l.2 = p * t - 1 then F.dropLast ++ [(l.1, p * t + t - 1)] else F ++ [(p * t, p * t + t - 1)]
def rgR (t : Int) (ps : List Int) : List Rg := ps.foldl (rgS t) []
theorem rgS_sc {t : Int} (ht : 0 < t) (F : List Rg) (p : Int) : rgS t (scP t F) p = scP t (rgS 1 F p) := by
  unfold rgS
  have eg : (scP t F).getLast? = F.getLast?.map fun p => (p.1 * t, p.2 * t + t - 1) := by
    unfold scP
    rw [List.getLast?_map]
  rw [eg]
  cases F.getLast? with
  | none =>
    show scP t F ++ [(p * t, p * t + t - 1)] = scP t (F ++ [(p * 1, p * 1 + 1 - 1)])
    unfold scP
    rw [List.map_append, Int.mul_one, show p + 1 - 1 = p by omega]
    rfl
  | some l =>
    show (if l.2 * t + t - 1 = p * t - 1 then (scP t F).dropLast ++ [(l.1 * t, p * t + t - 1)] else scP t F ++ [(p * t, p * t + t - 1)]) = scP t (if l.2 = p * 1 - 1 then F.dropLast ++ [(l.1, p * 1 + 1 - 1)] else F ++ [(p * 1, p * 1 + 1 - 1)])
    rw [Int.mul_one, show p + 1 - 1 = p by omega]
    have iff : l.2 * t + t - 1 = p * t - 1 ↔ l.2 = p - 1 := by
      have e : (l.2 + 1) * t = l.2 * t + t := by rw [Int.add_mul, Int.one_mul]
      constructor
      · intro z
        have a := (le_sc (a := l.2 + 1) (b := p) ht).mp (by omega)
        have b := (le_sc (a := p) (b := l.2 + 1) ht).mp (by omega)
        omega
      · intro z
        have : (l.2 + 1) * t = p * t := by rw [show l.2 + 1 = p by omega]
        omega
    by_cases g : l.2 = p - 1
    · rw [if_pos g, if_pos (iff.mpr g)]
      unfold scP
      rw [List.map_append, List.map_dropLast]
      rfl
    · rw [if_neg g, if_neg fun z => g (iff.mp z)]
      unfold scP
      rw [List.map_append]
      rfl
theorem rgR_sc {t : Int} (ht : 0 < t) (ps : List Int) : rgR t ps = scP t (rgR 1 ps) := by
  unfold rgR
  have gen : ∀ (ps : List Int) (F : List Rg), ps.foldl (rgS t) (scP t F) = scP t (ps.foldl (rgS 1) F) := by
    intro ps
    induction ps with
    | nil => intro F; rfl
    | cons p u ih =>
      intro F
      show u.foldl (rgS t) (rgS t (scP t F) p) = scP t (u.foldl (rgS 1) (rgS 1 F p))
      rw [rgS_sc ht, ih]
  exact gen ps []
/-! ### positions -/
def posL (a : Int) : Nat → List Int
  | 0 => []
  | n + 1 => a :: posL (a + 1) n
theorem posL_app : ∀ (m n : Nat) (a : Int), posL a (m + n) = posL a m ++ posL (a + (m : Int)) n
  | 0, n, a => by
    rw [Nat.zero_add, show a + ((0 : Nat) : Int) = a by omega]
    rfl
  | m + 1, n, a => by
    rw [show m + 1 + n = (m + n) + 1 by omega]
    show a :: posL (a + 1) (m + n) = a :: (posL (a + 1) m ++ posL (a + ((m + 1 : Nat) : Int)) n)
    rw [posL_app m n, show a + 1 + (m : Int) = a + ((m + 1 : Nat) : Int) by omega]
theorem posL_len : ∀ (n : Nat) (a : Int), (posL a n).length = n
  | 0, _ => rfl
  | n + 1, a => congrArg Nat.succ (posL_len n _)
theorem posL_drop (a : Int) (n k : Nat) (h : k ≤ n) : (posL a n).drop k = posL (a + (k : Int)) (n - k) := by
  have e : n = k + (n - k) := by omega
  rw [e, posL_app, List.drop_append_of_le_length (by rw [posL_len]; exact Nat.le_refl _), List.drop_of_length_le (by rw [posL_len]; exact Nat.le_refl _), List.nil_append, show k + (n - k) - k = n - k by omega]
def flP (p : Rg) : List Int := posL p.1 (p.2 - p.1 + 1).toNat
def flR (R : List Rg) : List Int := R.flatMap flP
theorem flR_cons (p : Rg) (t : List Rg) : flR (p :: t) = flP p ++ flR t := rfl
theorem flR_app (R S : List Rg) : flR (R ++ S) = flR R ++ flR S := List.flatMap_append ..
/-- ascending, with gaps, below b -/
def Gd : List Rg → Int → Prop
  | [], _ => True
  | p :: t, b => p.1 ≤ p.2 ∧ p.2 < b ∧ (∀ x, t.head? = some x → p.2 + 1 < x.1) ∧ Gd t b
theorem Gd.mono {b b' : Int} (h : b ≤ b') : ∀ {R : List Rg}, Gd R b → Gd R b'
  | [], _ => trivial
  | p :: t, g => ⟨g.1, by have := g.2.1; omega, g.2.2.1, Gd.mono h g.2.2.2⟩
theorem Gd.last {b : Int} : ∀ {R : List Rg}, Gd R b → ∀ l, R.getLast? = some l → l.2 < b
  | [], _, l, h => by cases h
  | [p], g, l, h => by
    have e : p = l := Option.some.inj h
    rw [← e]
    exact g.2.1
  | p :: q :: t, g, l, h => by
    rw [List.getLast?_cons_cons] at h
    exact Gd.last g.2.2.2 l h
theorem Gd.snoc {b : Int} {p : Rg} : ∀ {R : List Rg}, Gd R b → p.1 ≤ p.2 → p.2 < b → (∀ l, R.getLast? = some l → l.2 + 1 < p.1) → Gd (R ++ [p]) b
  | [], _, h1, h2, _ => ⟨h1, h2, (fun x h => by cases h), trivial⟩
  | [q], g, h1, h2, h3 => ⟨g.1, g.2.1, (fun x h => by have e : p = x := Option.some.inj h; rw [← e]; exact h3 q rfl), h1, h2, (fun x h => by cases h), trivial⟩
  | q :: r :: t, g, h1, h2, h3 => by
    have ih := Gd.snoc (R := r :: t) g.2.2.2 h1 h2 (fun l hl => h3 l (by rw [List.getLast?_cons_cons]; exact hl))
    exact ⟨g.1, g.2.1, (fun x h => g.2.2.1 x h), ih⟩
theorem rm_le {p : Rg} {n : Int} (h : p.1 ≤ p.2) (hn : 0 ≤ n) : 0 ≤ rmR p n ∧ rmR p n ≤ n ∧ rmR p n ≤ p.2 - p.1 + 1 ∧ (rmR p n < p.2 - p.1 + 1 → rmR p n = n) := by
  unfold rmR
  split <;> omega
theorem wf_zero {b : Int} : ∀ {R : List Rg}, Gd R b → wfR R 0 = R
  | [], _ => rfl
  | p :: t, g => by
    have h := rm_le (p := p) (n := 0) g.1 (Int.le_refl _)
    have e : rmR p 0 = 0 := by omega
    show wfP p 0 ++ wfR t (0 - rmR p 0) = p :: t
    unfold wfP
    rw [e, Int.sub_zero, Int.add_zero, if_pos g.1, wf_zero g.2.2.2]
    rfl
theorem wf_flat {b : Int} : ∀ {R : List Rg} {n : Int}, Gd R b → 0 ≤ n → flR (wfR R n) = (flR R).drop n.toNat
  | [], n, _, _ => by
    show ([] : List Int) = ([] : List Int).drop _
    rw [List.drop_nil]
  | p :: t, n, g, hn => by
    have g1 := g.1
    have h := rm_le (p := p) g1 hn
    have ih := wf_flat (n := n - rmR p n) g.2.2.2 (by omega)
    show flR (wfP p n ++ wfR t (n - rmR p n)) = (flP p ++ flR t).drop n.toNat
    rw [flR_app, ih, List.drop_append]
    have lp : (flP p).length = (p.2 - p.1 + 1).toNat := posL_len _ _
    rw [lp]
    by_cases c : p.1 + rmR p n ≤ p.2
    · have e : rmR p n = n := h.2.2.2 (by omega)
      have e1 : wfP p n = [(p.1 + rmR p n, p.2)] := if_pos c
      rw [e1, e, show n - n = 0 by omega, show n.toNat - (p.2 - p.1 + 1).toNat = 0 by omega]
      congr 1
      show posL (p.1 + n) (p.2 - (p.1 + n) + 1).toNat ++ [] = (posL p.1 (p.2 - p.1 + 1).toNat).drop n.toNat
      rw [List.append_nil, posL_drop _ _ _ (by omega), show (n.toNat : Int) = n by omega, show (p.2 - (p.1 + n) + 1).toNat = (p.2 - p.1 + 1).toNat - n.toNat by omega]
    · have e1 : wfP p n = [] := if_neg c
      rw [e1, show (n - rmR p n).toNat = n.toNat - (p.2 - p.1 + 1).toNat by omega]
      congr 1
      show [] = (posL p.1 (p.2 - p.1 + 1).toNat).drop n.toNat
      rw [List.drop_of_length_le (by rw [posL_len]; omega)]
theorem wf_good {b : Int} : ∀ {R : List Rg} {n : Int}, Gd R b → 0 ≤ n → Gd (wfR R n) b
  | [], _, _, _ => trivial
  | p :: t, n, g, hn => by
    have g1 := g.1
    have h := rm_le (p := p) g1 hn
    show Gd (wfP p n ++ wfR t (n - rmR p n)) b
    by_cases c : p.1 + rmR p n ≤ p.2
    · have e : rmR p n = n := h.2.2.2 (by omega)
      have e1 : wfP p n = [(p.1 + rmR p n, p.2)] := if_pos c
      rw [e1, show n - rmR p n = 0 by omega, wf_zero g.2.2.2]
      exact ⟨c, g.2.1, g.2.2.1, g.2.2.2⟩
    · have e1 : wfP p n = [] := if_neg c
      rw [e1]
      exact wf_good g.2.2.2 (by omega)
theorem wf_lastlt {b : Int} {R : List Rg} {n : Int} (g : Gd R b) (hn : 0 ≤ n) : ∀ l, (wfR R n).getLast? = some l → l.2 < b := fun l h => Gd.last (wf_good g hn) l h
/-! ### ranges of positions are the ranges -/
theorem rg_more : ∀ (k : Nat) (F : List Rg) (a q : Int), (posL (q + 1) k).foldl (rgS 1) (F ++ [(a, q)]) = F ++ [(a, q + (k : Int))]
  | 0, F, a, q => by
    rw [show q + ((0 : Nat) : Int) = q by omega]
    rfl
  | k + 1, F, a, q => by
    show (posL (q + 1 + 1) k).foldl (rgS 1) (rgS 1 (F ++ [(a, q)]) (q + 1)) = _
    have e : rgS 1 (F ++ [(a, q)]) (q + 1) = F ++ [(a, q + 1)] := by
      unfold rgS
      rw [List.getLast?_concat]
      show (if q = (q + 1) * 1 - 1 then (F ++ [(a, q)]).dropLast ++ [(a, (q + 1) * 1 + 1 - 1)] else _) = _
      rw [if_pos (by omega), List.dropLast_concat, Int.mul_one, show q + 1 + 1 - 1 = q + 1 by omega]
    rw [e, rg_more k F a (q + 1), show q + 1 + (k : Int) = q + ((k + 1 : Nat) : Int) by omega]
theorem rg_flat {b : Int} : ∀ (R : List Rg) (F : List Rg), Gd R b → (∀ l p, F.getLast? = some l → R.head? = some p → l.2 + 1 < p.1) → (flR R).foldl (rgS 1) F = F ++ R
  | [], F, _, _ => by
    rw [List.append_nil]
    rfl
  | p :: t, F, g, h => by
    have g1 := g.1
    obtain ⟨k, hk⟩ : ∃ k : Nat, (p.2 - p.1 + 1).toNat = k + 1 := ⟨(p.2 - p.1).toNat, by omega⟩
    have e0 : flP p = p.1 :: posL (p.1 + 1) k := by
      unfold flP
      rw [hk]
      rfl
    rw [flR_cons, List.foldl_append, e0]
    show (flR t).foldl (rgS 1) ((posL (p.1 + 1) k).foldl (rgS 1) (rgS 1 F p.1)) = F ++ p :: t
    have e1 : rgS 1 F p.1 = F ++ [(p.1, p.1)] := by
      unfold rgS
      cases e : F.getLast? with
      | none =>
        show F ++ [(p.1 * 1, p.1 * 1 + 1 - 1)] = _
        rw [Int.mul_one, show p.1 + 1 - 1 = p.1 by omega]
      | some l =>
        have := h l p e rfl
        show (if l.2 = p.1 * 1 - 1 then _ else F ++ [(p.1 * 1, p.1 * 1 + 1 - 1)]) = _
        rw [if_neg (by omega), Int.mul_one, show p.1 + 1 - 1 = p.1 by omega]
    rw [e1, rg_more, show p.1 + (k : Int) = p.2 by omega]
    have ep : (p.1, p.2) = p := rfl
    rw [ep, rg_flat t (F ++ [p]) g.2.2.2 (fun l q hl hq => by
      rw [List.getLast?_concat] at hl
      have e : p = l := Option.some.inj hl
      rw [← e]
      exact g.2.2.1 q hq), List.append_assoc]
    rfl
/-! ### positions that wait, run by run -/
def psW (ws : List Run) : List Int := ws.map (·.2)
theorem pl_same : ∀ (c : Nat) (ws : List Run) (n : Nat) (k : Str), (∀ r ∈ ws, r.1 = k) → psW (plA ws n (List.replicate c k)) = psW ws ++ posL (n : Int) c
  | 0, ws, n, k, _ => by
    show psW ws = psW ws ++ []
    rw [List.append_nil]
  | c + 1, ws, n, k, h => by
    have e : plS ws k n = ws ++ [(k, (n : Int))] := by
      cases ws with
      | nil => rfl
      | cons r t => exact if_pos (h r (List.mem_cons_self ..))
    show psW (plA (plS ws k n) (n + 1) (List.replicate c k)) = psW ws ++ ((n : Int) :: posL ((n : Int) + 1) c)
    rw [e, pl_same c _ (n + 1) k (fun r hr => by
      rcases List.mem_append.mp hr with z | z
      · exact h r z
      · rw [List.mem_singleton.mp z])]
    unfold psW
    rw [List.map_append, List.append_assoc]
    rfl
theorem pl_other : ∀ (c : Nat) (ws : List Run) (n : Nat) (k : Str), (∀ r ∈ ws, r.1 ≠ k) → psW (plA ws n (List.replicate c k)) = (psW ws).drop c ++ posL ((n : Int) + (ws.length : Int)) (c - ws.length)
  | 0, ws, n, k, _ => by
    show psW ws = (psW ws).drop 0 ++ posL _ (0 - ws.length)
    rw [Nat.zero_sub]
    show psW ws = psW ws ++ []
    rw [List.append_nil]
  | c + 1, [], n, k, _ => by
    have := pl_same (c + 1) [] n k (fun r h => by cases h)
    rw [this]
    show [] ++ posL (n : Int) (c + 1) = ([] : List Int).drop (c + 1) ++ posL ((n : Int) + 0) (c + 1 - 0)
    rw [List.drop_nil, Int.add_zero]
    rfl
  | c + 1, r :: t, n, k, h => by
    have e : plS (r :: t) k n = t := if_neg (h r (List.mem_cons_self ..))
    show psW (plA (plS (r :: t) k n) (n + 1) (List.replicate c k)) = (psW t).drop c ++ posL ((n : Int) + ((r :: t).length : Int)) (c + 1 - (r :: t).length)
    rw [e, pl_other c t (n + 1) k (fun x hx => h x (List.mem_cons_of_mem _ hx)), List.length_cons, show ((n + 1 : Nat) : Int) + (t.length : Int) = (n : Int) + ((t.length + 1 : Nat) : Int) by omega, show c + 1 - (t.length + 1) = c - t.length by omega]
end UP

set_option Elab.async false
set_option linter.all false
set_option maxRecDepth 100000
set_option maxHeartbeats 4000000
namespace UP
open PySem PySem.Spec PyProof.Rows L2
theorem plA_app : ∀ (l m : List Str) (ws : List Run) (n : Nat), plA ws n (l ++ m) = plA (plA ws n l) (n + l.length) m
  | [], m, ws, n => rfl
  | k :: t, m, ws, n => by
    show plA (plS ws k n) (n + 1) (t ++ m) = plA (plA (plS ws k n) (n + 1) t) (n + (k :: t).length) m
    rw [plA_app t m, List.length_cons, show n + 1 + t.length = n + (t.length + 1) by omega]
theorem uni_plA : ∀ (l : List Str) (ws : List Run) (n : Nat), Uni ws → Uni (plA ws n l)
  | [], _, _, h => h
  | k :: t, ws, n, h => uni_plA t _ _ (uni_plS h)
theorem told_len {ws : List Run} : numR (toldR ws) = (ws.length : Int) := by
  cases ws with
  | nil => rfl
  | cons r t => rfl
/-- one run -/
theorem one_run {ws : List Run} {R : List Rg} {n : Nat} {r : Run} (u : Uni ws) (fl : flR R = psW ws) (g : Gd R (n : Int)) (c1 : 1 ≤ r.2) (bd : ∀ l, R.getLast? = some l → l.2 = (n : Int) - 1 → ∀ x, toldR ws = some x → x.1 ≠ r.1) :
    flR (wfR R (leavR (toldR ws) r.1 r.2) ++ adP (toldR ws) (n : Int) r) = psW (plA ws n (List.replicate r.2.toNat r.1)) ∧ Gd (wfR R (leavR (toldR ws) r.1 r.2) ++ adP (toldR ws) (n : Int) r) ((n : Int) + r.2) ∧
    ∀ l, (wfR R (leavR (toldR ws) r.1 r.2) ++ adP (toldR ws) (n : Int) r).getLast? = some l → l.2 = (n : Int) + r.2 - 1 → ∀ x, toldR (plA ws n (List.replicate r.2.toNat r.1)) = some x → x.1 = r.1 := by
  obtain ⟨c, hc⟩ : ∃ c : Nat, r.2.toNat = c + 1 := ⟨r.2.toNat - 1, by omega⟩
  have er : ((c : Int) + 1) = r.2 := by omega
  have nn : PosO (toldR ws) := by
    intro x hx
    cases ws with
    | nil => cases hx
    | cons y t =>
      cases hx
      show 1 ≤ (((y :: t).length : Nat) : Int)
      rw [List.length_cons]
      omega
  have told' : toldR (plA ws n (List.replicate r.2.toNat r.1)) = stepR (toldR ws) r.1 r.2 := by
    rw [told_plA _ _ _ u, hc, it_step c _ _ nn, er]
  cases ws with
  | nil =>
    -- nobody waits
    have eR : R = [] := by
      cases R with
      | nil => rfl
      | cons p t =>
        have g1 := g.1
        have : flR (p :: t) = [] := fl
        rw [flR_cons] at this
        have l0 := congrArg List.length this
        rw [List.length_append, show (flP p).length = (p.2 - p.1 + 1).toNat from posL_len _ _] at l0
        have l0 : (p.2 - p.1 + 1).toNat + (flR t).length = 0 := l0
        omega
    subst eR
    have lv : leavR (toldR []) r.1 r.2 = 0 := rfl
    have ad : adP (toldR []) (n : Int) r = [((n : Int) + 0, (n : Int) + r.2 - 1)] := if_pos (by rw [lv]; omega)
    rw [lv, ad]
    refine ⟨?_, ⟨by show (n : Int) + 0 ≤ (n : Int) + r.2 - 1; omega, by show (n : Int) + r.2 - 1 < (n : Int) + r.2; omega, (fun x h => by cases h), trivial⟩, fun l _ _ x hx => ?_⟩
    · rw [pl_same r.2.toNat [] n r.1 (fun r h => by cases h)]
      show posL ((n : Int) + 0) ((n : Int) + r.2 - 1 - ((n : Int) + 0) + 1).toNat ++ [] = [] ++ posL (n : Int) r.2.toNat
      rw [List.append_nil, List.nil_append, Int.add_zero, show (n : Int) + r.2 - 1 - (n : Int) + 1 = r.2 by omega]
    · rw [told'] at hx
      cases hx
      rfl
  | cons y t =>
    by_cases e : y.1 = r.1
    · -- the same kind
      have all : ∀ x ∈ y :: t, x.1 = r.1 := fun x hx => (u x hx y (List.mem_cons_self ..)).trans e
      have lv : leavR (toldR (y :: t)) r.1 r.2 = 0 := if_pos e
      have ad : adP (toldR (y :: t)) (n : Int) r = [((n : Int) + 0, (n : Int) + r.2 - 1)] := by
        unfold adP
        rw [lv, if_pos (by omega)]
      rw [lv, ad, wf_zero g]
      refine ⟨?_, ?_, fun l _ _ x hx => ?_⟩
      · rw [flR_app, fl, pl_same r.2.toNat _ n r.1 all]
        congr 1
        show posL ((n : Int) + 0) ((n : Int) + r.2 - 1 - ((n : Int) + 0) + 1).toNat ++ [] = _
        rw [List.append_nil, Int.add_zero, show (n : Int) + r.2 - 1 - (n : Int) + 1 = r.2 by omega]
      · refine Gd.snoc (Gd.mono (by omega) g) (by show (n : Int) + 0 ≤ (n : Int) + r.2 - 1; omega) (by show (n : Int) + r.2 - 1 < (n : Int) + r.2; omega) fun l hl => ?_
        have h1 := Gd.last g l hl
        show l.2 + 1 < (n : Int) + 0
        by_cases z : l.2 = (n : Int) - 1
        · exact absurd e (bd l hl z (y.1, ((y :: t).length : Int)) rfl)
        · omega
      · rw [told', show stepR (toldR (y :: t)) r.1 r.2 = some (r.1, _ + r.2) from step_same e] at hx
        cases hx
        rfl
    · -- another kind
      have all : ∀ x ∈ y :: t, x.1 ≠ r.1 := fun x hx z => e ((u y (List.mem_cons_self ..) x hx).trans z)
      have lv : leavR (toldR (y :: t)) r.1 r.2 = if r.2 < ((y :: t).length : Int) then r.2 else ((y :: t).length : Int) := if_neg e
      have lfl : (flR R).length = (y :: t).length := by
        rw [fl]
        exact List.length_map _
      by_cases q : r.2 ≤ ((y :: t).length : Int)
      · have lv1 : leavR (toldR (y :: t)) r.1 r.2 = r.2 := by
          rw [lv]
          split <;> omega
        have ad : adP (toldR (y :: t)) (n : Int) r = [] := if_neg (by rw [lv1]; omega)
        rw [lv1, ad, List.append_nil]
        refine ⟨?_, Gd.mono (by omega) (wf_good g (by omega)), fun l hl hz => ?_⟩
        · rw [wf_flat g (by omega), fl, pl_other r.2.toNat _ n r.1 all, show r.2.toNat - (y :: t).length = 0 by omega]
          show _ = _ ++ []
          rw [List.append_nil]
        · have := wf_lastlt g (show 0 ≤ r.2 by omega) l hl
          omega
      · have lv1 : leavR (toldR (y :: t)) r.1 r.2 = ((y :: t).length : Int) := by
          rw [lv, if_neg (by omega)]
        have ad : adP (toldR (y :: t)) (n : Int) r = [((n : Int) + ((y :: t).length : Int), (n : Int) + r.2 - 1)] := by
          unfold adP
          rw [lv1, if_pos (by omega)]
        have fl0 : flR (wfR R ((y :: t).length : Int)) = [] := by
          rw [wf_flat g (by omega), Int.toNat_natCast, List.drop_of_length_le (by omega)]
        have w0 : wfR R ((y :: t).length : Int) = [] := by
          cases hw : wfR R ((y :: t).length : Int) with
          | nil => rfl
          | cons p s =>
            have gg := wf_good g (show 0 ≤ ((y :: t).length : Int) by omega)
            rw [hw] at gg fl0
            have g1 := gg.1
            rw [flR_cons] at fl0
            have l0 := congrArg List.length fl0
            rw [List.length_append, show (flP p).length = (p.2 - p.1 + 1).toNat from posL_len _ _] at l0
            have l0 : (p.2 - p.1 + 1).toNat + (flR s).length = 0 := l0
            omega
        rw [lv1, ad, w0]
        refine ⟨?_, ⟨by show (n : Int) + ((y :: t).length : Int) ≤ (n : Int) + r.2 - 1; omega, by show (n : Int) + r.2 - 1 < (n : Int) + r.2; omega, (fun x h => by cases h), trivial⟩, fun l _ _ x hx => ?_⟩
        · rw [pl_other r.2.toNat _ n r.1 all, List.drop_of_length_le (by unfold psW; rw [List.length_map]; omega)]
          show posL ((n : Int) + ((y :: t).length : Int)) ((n : Int) + r.2 - 1 - ((n : Int) + ((y :: t).length : Int)) + 1).toNat ++ [] = [] ++ _
          rw [List.append_nil, List.nil_append, show ((n : Int) + r.2 - 1 - ((n : Int) + ((y :: t).length : Int)) + 1).toNat = r.2.toNat - (y :: t).length by omega]
        · rw [told', show stepR (toldR (y :: t)) r.1 r.2 = _ from step_other (r := (y.1, ((y :: t).length : Int))) e] at hx
          have h0 : ¬ (0 : Int) < ((y :: t).length : Int) - r.2 := by omega
          have h1 : ¬ ((y :: t).length : Int) - r.2 = 0 := by omega
          have hx : (if (0 : Int) < ((y :: t).length : Int) - r.2 then some (y.1, ((y :: t).length : Int) - r.2) else if ((y :: t).length : Int) - r.2 = 0 then none else some (r.1, -(((y :: t).length : Int) - r.2))) = some x := hx
          rw [if_neg h0, if_neg h1] at hx
          cases hx
          rfl
theorem all_runs : ∀ (rs : List Run) (ws : List Run) (R : List Rg) (n : Nat), Uni ws → flR R = psW ws → Gd R (n : Int) → (∀ r ∈ rs, 1 ≤ r.2) → Alt rs → (∀ l, R.getLast? = some l → l.2 = (n : Int) - 1 → ∀ x r, toldR ws = some x → rs.head? = some r → x.1 ≠ r.1) →
    flR (waR rs (toldR ws) (n : Int) R) = psW (plA ws n (itR rs)) ∧ ∃ b, Gd (waR rs (toldR ws) (n : Int) R) b
  | [], ws, R, n, _, fl, g, _, _, _ => ⟨fl, _, g⟩
  | r :: t, ws, R, n, u, fl, g, k, alt, bd => by
    have c1 := k r (List.mem_cons_self ..)
    obtain ⟨h1, h2, h3⟩ := one_run (r := r) u fl g c1 fun l hl hz x hx => bd l hl hz x r hx rfl
    have e : itR (r :: t) = List.replicate r.2.toNat r.1 ++ itR t := rfl
    have cn : ((n + r.2.toNat : Nat) : Int) = (n : Int) + r.2 := by omega
    have told' : toldR (plA ws n (List.replicate r.2.toNat r.1)) = stepR (toldR ws) r.1 r.2 := by
      have nn : PosO (toldR ws) := by
        intro x hx
        cases ws with
        | nil => cases hx
        | cons y t =>
          cases hx
          show 1 ≤ (((y :: t).length : Nat) : Int)
          rw [List.length_cons]
          omega
      obtain ⟨c, hc⟩ : ∃ c : Nat, r.2.toNat = c + 1 := ⟨r.2.toNat - 1, by omega⟩
      rw [told_plA _ _ _ u, hc, it_step c _ _ nn, show (c : Int) + 1 = r.2 by omega]
    have ih := all_runs t (plA ws n (List.replicate r.2.toNat r.1)) _ (n + r.2.toNat) (uni_plA _ _ _ u) h1 (by rw [cn]; exact h2) (fun x hx => k x (List.mem_cons_of_mem _ hx)) (fun i x y hx hy => alt (i + 1) x y hx hy) (fun l hl hz x r' hx hr' => by
      have ex := h3 l hl (by omega) x hx
      rw [ex]
      refine alt 0 r r' rfl ?_
      cases t with
      | nil => cases hr'
      | cons y s => exact hr')
    rw [cn, told'] at ih
    rw [e, plA_app, List.length_replicate]
    exact ih
/-! ### the parts up to a moment -/
theorem cut_none {e : Int} : ∀ (rs : List Run) (b : Int), 0 ≤ b → e ≤ b → (∀ r ∈ rs, 1 ≤ r.2) → cutR 0 e b rs = []
  | [], _, _, _, _ => rfl
  | r :: t, b, h0, h, k => by
    have c1 := k r (List.mem_cons_self ..)
    have hs : ¬ 0 < sizeR b 0 e r.2 := by
      unfold sizeR
      split <;> split <;> omega
    show pieceR b 0 e r ++ cutR 0 e (b + r.2) t = []
    rw [show pieceR b 0 e r = [] from if_neg hs, cut_none t (b + r.2) (by omega) (by omega) fun x hx => k x (List.mem_cons_of_mem _ hx)]
    rfl
theorem cut_kinds {e : Int} : ∀ (rs : List Run) (b : Int), 0 ≤ b → (∀ r ∈ rs, 1 ≤ r.2) → ∃ n, (cutR 0 e b rs).map (·.1) = (rs.map (·.1)).take n
  | [], _, _, _ => ⟨0, rfl⟩
  | r :: t, b, h0, k => by
    by_cases h : e ≤ b
    · exact ⟨0, by rw [cut_none (r :: t) b h0 h k]; rfl⟩
    · have c1 := k r (List.mem_cons_self ..)
      obtain ⟨n, hn⟩ := cut_kinds t (b + r.2) (by omega) fun x hx => k x (List.mem_cons_of_mem _ hx)
      have hs : 0 < sizeR b 0 e r.2 := by
        unfold sizeR
        split <;> split <;> omega
      refine ⟨n + 1, ?_⟩
      show (pieceR b 0 e r ++ cutR 0 e (b + r.2) t).map (·.1) = r.1 :: (t.map (·.1)).take n
      rw [show pieceR b 0 e r = [(r.1, sizeR b 0 e r.2)] from if_pos hs, List.map_append, hn]
      rfl
theorem alt_take {rs hs : List Run} {n : Nat} (h : hs.map (·.1) = (rs.map (·.1)).take n) (a : Alt rs) : Alt hs := by
  intro i x y hx hy
  have g : ∀ (j : Nat) (z : Run), hs[j]? = some z → ∃ w, rs[j]? = some w ∧ w.1 = z.1 := by
    intro j z hz
    have := congrArg (fun l : List Str => l[j]?) h
    simp only [List.getElem?_map, hz, List.getElem?_take] at this
    split at this
    · cases e : rs[j]? with
      | none => rw [e] at this; cases this
      | some w =>
        rw [e] at this
        exact ⟨w, rfl, (Option.some.inj this).symm⟩
    · cases this
  obtain ⟨x', h1, e1⟩ := g i x hx
  obtain ⟨y', h2, e2⟩ := g (i + 1) y hy
  rw [← e1, ← e2]
  exact a i x' y' h1 h2
/-- the ranges at a multiplied moment -/
theorem whole_wa {rs : List Run} {t : Int} {m : Nat} (ht : 0 < t) (k : ∀ r ∈ rs, 1 ≤ r.2) (a : Alt rs) : waR (cutR 0 ((m : Int) * t) 0 (scR t rs)) none 0 [] = rgR t (psW (plA [] 0 ((itR rs).take m))) := by
  have ec := cut_sc (s := 0) (e := (m : Int)) ht rs 0
  rw [Int.zero_mul] at ec
  have es := waR_sc ht (cutR 0 (m : Int) 0 rs) none 0 []
  rw [Int.zero_mul] at es
  obtain ⟨n, hn⟩ := cut_kinds (e := (m : Int)) rs 0 (Int.le_refl _) k
  obtain ⟨h1, b, h2⟩ := all_runs (cutR 0 (m : Int) 0 rs) [] [] 0 (fun x hx => by cases hx) rfl trivial cutR_pos (alt_take hn a) (fun l hl => by cases hl)
  have h1 : flR (waR (cutR 0 (m : Int) 0 rs) none 0 []) = psW (plA [] 0 (itR (cutR 0 (m : Int) 0 rs))) := h1
  have h2 : Gd (waR (cutR 0 (m : Int) 0 rs) none 0 []) b := h2
  rw [cut_items _ _ _ (Int.le_refl _) k, Int.sub_zero, Int.toNat_natCast] at h1
  have rf := rg_flat _ [] h2 (fun l p hl => by cases hl)
  rw [h1, List.nil_append] at rf
  rw [ec, rgR_sc ht]
  unfold rgR
  rw [rf]
  exact es
end UP

set_option Elab.async false
set_option linter.all false
set_option maxRecDepth 100000
set_option maxHeartbeats 4000000
namespace UP
open PySem PySem.Spec PyProof.Rows L2
/-! ### lists of ranges -/
def Rngs (H : Hp) (a : Addr) (R : List Rg) : Prop := ∃ xs, H a = some (.lst xs) ∧ Paired (PV H) xs R
theorem pvs_same {H H' : Hp} {xs : List V} {R : List Rg} (s : Same H H') (h : Paired (PV H) xs R) : Paired (PV H') xs R := Paired.imp (fun _ _ => PV.same s) h
theorem pvs_grow {H : Hp} {D : Addr} {acc acc' xs : List V} {R : List Rg} (hD : H D = some (.lst acc)) (h : Paired (PV H) xs R) : Paired (PV (upd H D (.lst acc'))) xs R := Paired.imp (fun _ _ => PV.grow hD) h
theorem Rngs.same {H H' : Hp} {a : Addr} {R : List Rg} (s : Same H H') (h : Rngs H a R) : Rngs H' a R := by
  obtain ⟨xs, hx, hp⟩ := h
  exact ⟨xs, s _ _ hx, pvs_same s hp⟩
theorem wfP_len (p : Rg) (n : Int) : (wfP p n).length ≤ 1 := by
  unfold wfP
  split <;> simp
theorem wfR_len : ∀ (R : List Rg) (n : Int), (wfR R n).length ≤ R.length
  | [], _ => Nat.le_refl _
  | p :: t, n => by
    have h1 := wfP_len p n
    have h2 := wfR_len t (n - rmR p n)
    show (wfP p n ++ wfR t (n - rmR p n)).length ≤ _
    rw [List.length_append, List.length_cons]
    omega
theorem adP_len (st : Option Run) (b : Int) (r : Run) : (adP st b r).length ≤ 1 := by
  unfold adP
  split <;> simp
theorem waR_len : ∀ (l : List Run) (st : Option Run) (b : Int) (R : List Rg), (waR l st b R).length ≤ R.length + l.length
  | [], _, _, _ => Nat.le_refl _
  | r :: t, st, b, R => by
    have h1 := waR_len t (stepR st r.1 r.2) (b + r.2) (wfR R (leavR st r.1 r.2) ++ adP st b r)
    have h2 := wfR_len R (leavR st r.1 r.2)
    have h3 := adP_len st b r
    rw [List.length_append] at h1
    show (waR t (stepR st r.1 r.2) (b + r.2) (wfR R (leavR st r.1 r.2) ++ adP st b r)).length ≤ _
    rw [List.length_cons]
    omega
theorem paired_snocR {α β : Type} {F : α → β → Prop} : ∀ {xs : List α} (l : List β) (y : β), Paired F xs (l ++ [y]) → ∃ xs0 x, xs = xs0 ++ [x] ∧ Paired F xs0 l ∧ F x y
  | _, [], y, h => by
    cases h with
    | cons h1 h2 =>
      cases h2
      exact ⟨[], _, rfl, .nil, h1⟩
  | _, z :: l, y, h => by
    cases h with
    | cons h1 h2 =>
      obtain ⟨xs0, x, e, h3, h4⟩ := paired_snocR l y h2
      exact ⟨_ :: xs0, x, by rw [e]; rfl, .cons h1 h3, h4⟩
theorem Gd.gap {b : Int} {p : Rg} : ∀ {R : List Rg}, Gd (R ++ [p]) b → ∀ l, R.getLast? = some l → l.2 + 1 < p.1
  | [], _, l, h => by cases h
  | [q], g, l, h => by
    have e : q = l := Option.some.inj h
    rw [← e]
    exact g.2.2.1 p rfl
  | q :: r :: t, g, l, h => by
    rw [List.getLast?_cons_cons] at h
    exact Gd.gap (R := r :: t) g.2.2.2 l h
/-- a new range never touches the last one -/
theorem no_touch {cs : List Run} (pos : ∀ r ∈ cs, 1 ≤ r.2) (alt : Alt cs) {i : Nat} {r : Run} (er : cs[i]? = some r) : leavR (stR (cs.take i) none) r.1 r.2 < r.2 → ∀ l, (wfR (waR (cs.take i) none 0 []) (leavR (stR (cs.take i) none) r.1 r.2)).getLast? = some l → l.2 + 1 ≠ lenR (cs.take i) + leavR (stR (cs.take i) none) r.1 r.2 := by
  intro lt l hl z
  obtain ⟨_, b, g⟩ := all_runs (cs.take (i + 1)) [] [] 0 (fun x hx => by cases hx) rfl trivial (fun x hx => pos x (List.mem_of_mem_take hx)) (alt_take (n := i + 1) List.map_take alt) (fun l hl => by cases hl)
  have g : Gd (waR (cs.take (i + 1)) none 0 []) b := g
  rw [take_snoc er, waR_snoc, Int.zero_add, show adP (stR (cs.take i) none) (lenR (cs.take i)) r = [_] from if_pos lt] at g
  have := Gd.gap g l hl
  have this : l.2 + 1 < lenR (cs.take i) + leavR (stR (cs.take i) none) r.1 r.2 := this
  omega
section
variable {P : Program} {w : World} {K : PySem.W.Frag} {mg : Str → Option Value} {base : Heap}
/-! without_first: slots 0:ranges 1:number 2:kept 3:first 4:last 5:removed -/
abbrev s_without_first : Stmt := topS 21
theorem sc_without_first : FnScope ["ranges", "number", "kept", "first", "last", "removed"] ["ranges", "number"] (defScope s_without_first) := ⟨rfl, rfl, rfl, by decide +kernel, rfl, by decide +kernel, by decide +kernel⟩
def sp_without_first : Sp := fun vs H Q _ => ∃ (a : Addr) (R : List Rg) (n : Int), vs = [.ref a, .int n] ∧ Rngs H a R ∧ R.length ≤ 100000 ∧ ∀ H' p, Same H H' → H p = none → Rngs H' p (wfR R n) → Q (.ref p) H'
theorem ok_without_first (D : Df K mg "without_first" s_without_first) (T : Tx mg) : Has P w K mg base 1 "without_first" ["ranges", "number"] sp_without_first := by
  refine has_of D sc_without_first (fun _ _ _ _ _ _ us hl => match us, hl with | [_, _], _ => rfl) (fun vs H Q E h => ?_) (fun f cdv A outer s₀ H vs Q E hr h => ?_)
  · obtain ⟨a, R, n, rfl, _⟩ := h
    rfl
  · obtain ⟨a, R, n, rfl, ⟨xs, hx, hp⟩, l4, q⟩ := h
    have lx : xs.length = R.length := Paired.len hp
    refine ⟨_, (pss_cons (ps_set (i := 2) sc_without_first.nd rfl (by first | exact Or.inl rfl | exact Or.inr rfl) (pe_lst pa_nil))
    (pss_cons (ps_for PassesOwn.never rfl (pi_list (pv 0)) (pg_tup rfl (pgs_cons (pg_name (i := 3) sc_without_first.nd rfl (by first | exact Or.inl rfl | exact Or.inr rfl)) (pgs_cons (pg_name (i := 4) sc_without_first.nd rfl (by first | exact Or.inl rfl | exact Or.inr rfl)) pgs_nil)))
      (pss_cons (ps_set (i := 5) sc_without_first.nd rfl (by first | exact Or.inl rfl | exact Or.inr rfl) (pe_callB (call_min2 rfl) (by rfl) T.n_min (by decide +kernel) (pa_cons (pv 1) (pa_cons (pe_op op_add (pe_op op_sub (pv 4) (pv 3)) pe_int) pa_nil))))
    (C8.pss_cut (ps_if (pt_cmpR op_le (pe_op op_add (pv 3) (pv 5)) (pv 4) (nomark _)) (pss_one (ps_expr (pe_bm PySem.F.plainAttrs_list PySem.F.slot_list_append PySem.F.type_list_append mt_append (pv 2) (pa_cons (pe_tup (pa_cons (pe_op op_add (pv 3) (pv 5)) (pa_cons (pv 4) pa_nil))) pa_nil)))) pss_nil)
    (pss_one (ps_aug (i := 1) sc_without_first.nd rfl (by first | exact Or.inl rfl | exact Or.inr rfl) (pv 5) ip_sub)))))
    (pss_one (ps_ret (pv 2))))), ?_⟩
    refine ⟨Nat.zero_le _, fun p np => ?_⟩
    refine ⟨_, rfl, a, rfl, ⟨xs, .of (same_upd np _ _ hx)⟩, for_list (K := K) (a := a) (xs := xs) (fun i σ H' => ∃ b y3 y4 y5, b = wfN (R.take i) n ∧ σ = [some (.ref a), some (.int b), some (.ref p), y3, y4, y5] ∧ Same H H' ∧ ∃ ys, H' p = some (.lst ys) ∧ Paired (PV H') ys (wfR (R.take i) n))
      ⟨n, none, none, none, rfl, rfl, same_upd np, [], upd_same, .nil⟩ (fun i σ H' _ hP => ?_) (fun i x σ H1 ex hP => ?_) (fun σ H1 hP => ?_)⟩
    · obtain ⟨_, _, _, _, _, _, sm, _⟩ := hP
      exact .of (sm _ _ hx)
    · obtain ⟨b, y3, y4, y5, rfl, rfl, sm, ys, hL, hy⟩ := hP
      obtain ⟨r, er, hr1⟩ := Paired.at hp ex
      have hi : i < xs.length := (List.getElem?_eq_some_iff.mp ex).1
      obtain ⟨t, rfl, ht⟩ := PV.same sm hr1
      have el : wfN (R.take (i + 1)) n = wfN (R.take i) n - rmR r (wfN (R.take i) n) := by rw [take_snoc er, wfN_snoc]
      have ec : wfR (R.take (i + 1)) n = wfR (R.take i) n ++ wfP r (wfN (R.take i) n) := by rw [take_snoc er, wfR_snoc]
      refine ⟨t, _, rfl, .of ht, rfl, _, _, rfl, _, _, rfl, rfl, ?_⟩
      refine ⟨_, rfl, _, rfl, _, rfl, _, _, rfl, rfl, _, _, rfl, rfl, _, _, rfl, ?_⟩
      refine ⟨fun σ' H' => σ' = [some (.ref a), some (.int (wfN (R.take i) n)), some (.ref p), some (.int r.1), some (.int r.2), some (.int (rmR r (wfN (R.take i) n)))] ∧ Same H H' ∧ ∃ ys, H' p = some (.lst ys) ∧ Paired (PV H') ys (wfR (R.take (i + 1)) n), ?_, fun σ' H5 hM => ?_⟩
      · refine ⟨_, rfl, _, rfl, _, _, rfl, rfl, _, rfl, _, _, rfl, rfl, _, rfl, ite2 (fun e => ?_) (fun e => ?_)⟩
        · have e : r.1 + rmR r (wfN (R.take i) n) ≤ r.2 := of_decide_eq_true e
          have epc : wfP r (wfN (R.take i) n) = [(r.1 + rmR r (wfN (R.take i) n), r.2)] := if_pos e
          refine ⟨_, rfl, .inl ⟨rfl, _, SqL.of hL⟩, _, rfl, _, rfl, _, _, rfl, rfl, _, rfl, (by show 2 ≤ sizeLine; decide), fun u nn => ⟨p, _, _, rfl, rfl, same_upd nn _ _ hL, ?_, ?_⟩⟩
          · have h1 := Paired.len hy
            have h2 := wfR_len (R.take i) n
            rw [List.length_take] at h2
            exact small (by omega)
          · refine ⟨rfl, same_grow np (sm.trans (same_upd nn)), _, upd_same, ?_⟩
            rw [ec, epc]
            exact Paired.app (pvs_grow (same_upd nn _ _ hL) (pvs_same (same_upd nn) hy)) (.cons (PV.grow (same_upd nn _ _ hL) ⟨_, rfl, upd_same⟩) .nil)
        · have e : ¬ r.1 + rmR r (wfN (R.take i) n) ≤ r.2 := fun z => e (decide_eq_true z)
          have epc : wfP r (wfN (R.take i) n) = [] := if_neg e
          refine ⟨rfl, sm, _, hL, ?_⟩
          rw [ec, epc, List.append_nil]
          exact hy
      · obtain ⟨rfl, s5, ys5, hL5, hy5⟩ := hM
        exact ⟨_, rfl, _, rfl, _, _, rfl, rfl, _, _, _, _, el.symm, rfl, s5, ys5, hL5, hy5⟩
    · obtain ⟨b, y3, y4, y5, rfl, rfl, sm, ys, hL, hy⟩ := hP
      rw [lx, List.take_length] at hy
      exact ⟨_, rfl, q H1 p sm np ⟨ys, hL, hy⟩⟩
def adQ (b c n : Int) : List Rg := if n < c then [(b + n, b + c - 1)] else []
/-! add_range: slots 0:ranges 1:first 2:last -/
abbrev s_add_range : Stmt := topS 20
theorem sc_add_range : FnScope ["ranges", "first", "last"] ["ranges", "first", "last"] (defScope s_add_range) := ⟨rfl, rfl, rfl, by decide +kernel, rfl, by decide +kernel, by decide +kernel⟩
def sp_add_range : Sp := fun vs H Q _ => ∃ (a : Addr) (R : List Rg) (f l : Int), vs = [.ref a, .int f, .int l] ∧ Rngs H a R ∧ R.length ≤ 100000 ∧ (∀ z, R.getLast? = some z → z.2 + 1 ≠ f) ∧ ∀ H', But a H H' → Rngs H' a (R ++ [(f, l)]) → Q .non H'
theorem ok_add_range (D : Df K mg "add_range" s_add_range) : Has P w K mg base 1 "add_range" ["ranges", "first", "last"] sp_add_range := by
  refine has_of D sc_add_range (fun _ _ _ _ _ _ us hl => match us, hl with | [_, _, _], _ => rfl) (fun vs H Q E h => ?_) (fun f cdv A outer s₀ H vs Q E hr h => ?_)
  · obtain ⟨a, R, x, l, rfl, _⟩ := h
    rfl
  · obtain ⟨a, R, x, l, rfl, ⟨xs, hx, hp⟩, l4, nt, q⟩ := h
    have lx : xs.length = R.length := Paired.len hp
    have app : ∀ (p : Addr), H p = none → Q .non (upd (upd H p (.tup [.int x, .int l])) a (.lst (xs ++ [.ref p]))) := by
      intro p np
      have hx1 := same_upd (o := .tup [.int x, .int l]) np _ _ hx
      exact q _ ((Same.but (same_upd np)).trans but_upd) ⟨_, upd_same, Paired.app (pvs_grow hx1 (pvs_same (same_upd np) hp)) (.cons (PV.grow hx1 ⟨_, rfl, upd_same⟩) .nil)⟩
    refine ⟨_, (pss_one (ps_if (PW.pt (pw_and (pt_truth (pv 0) (by intro _; rfl)) (pw_and1 (pt_cmpR op_eq (pe_op op_add (pe_ix ix_tup (pe_ix ix_list (pv 0) (pe_un un_neg pe_int) (fun _ _ => rfl)) pe_int (fun _ _ => rfl)) pe_int) (pv 1) (nomark _))))) (pss_one (ps_asg (pe_tup (pa_cons (pe_ix ix_tup (pe_ix ix_list (pv 0) (pe_un un_neg pe_int) (fun _ _ => rfl)) pe_int (fun _ _ => rfl)) (pa_cons (pv 2) pa_nil))) (pg_sub (pv 0) (pe_un un_neg pe_int) set_list))) (pss_one (ps_expr (pe_bm PySem.F.plainAttrs_list PySem.F.slot_list_append PySem.F.type_list_append mt_append (pv 0) (pa_cons (pe_tup (pa_cons (pv 1) (pa_cons (pv 2) pa_nil))) pa_nil)))))), ?_⟩
    rcases List.eq_nil_or_concat R with e0 | ⟨R0, y, e0⟩
    · subst e0
      cases hp
      refine ⟨_, rfl, false, .inl ⟨[], .of hx, rfl⟩, iteF ?_⟩
      exact ⟨_, rfl, .inl ⟨rfl, _, SqL.of hx⟩, _, rfl, _, rfl, (by show 2 ≤ sizeLine; decide), fun u nn => ⟨a, _, _, rfl, rfl, same_upd nn _ _ hx, small (by show 0 ≤ _; omega), app u nn⟩⟩
    · rw [List.concat_eq_append] at e0
      subst e0
      have nt := nt y List.getLast?_concat
      obtain ⟨ys0, yv, rfl, hy0, ⟨tl, rfl, htl⟩⟩ := paired_snocR R0 y hp
      have exl : atI (ys0 ++ [V.ref tl]) (-1) = some (.ref tl) := atI_last _ _
      have tr : (!(ys0 ++ [V.ref tl]).isEmpty) = true := by cases ys0 <;> rfl
      have lx2 : (ys0 ++ [V.ref tl]).length ≤ 100000 := by rw [lx]; exact l4
      refine ⟨_, rfl, true, .inl ⟨_, .of hx, tr.symm⟩, iteT ?_⟩
      refine ⟨_, rfl, 1, rfl, a, _, -1, _, rfl, rfl, .of hx, exl, tl, _, 1, _, rfl, rfl, .of htl, rfl, _, _, rfl, rfl, _, rfl, rfl, _, rfl, iteN (decide_eq_false fun z => nt (V.int.inj z)) ?_⟩
      exact ⟨_, rfl, .inl ⟨rfl, _, SqL.of hx⟩, _, rfl, _, rfl, (by show 2 ≤ sizeLine; decide), fun u nn => ⟨a, _, _, rfl, rfl, same_upd nn _ _ hx, small (by omega), app u nn⟩⟩
/-! ranges_after_run: slots 0:ranges 1:start 2:count 3:leaving 4:kept -/
abbrev s_ranges_after_run : Stmt := topS 22
theorem sc_ranges_after_run : FnScope ["ranges", "start", "count", "leaving", "kept"] ["ranges", "start", "count", "leaving"] (defScope s_ranges_after_run) := ⟨rfl, rfl, rfl, by decide +kernel, rfl, by decide +kernel, by decide +kernel⟩
def sp_ranges_after_run : Sp := fun vs H Q _ => ∃ (a : Addr) (R : List Rg) (b c n : Int), vs = [.ref a, .int b, .int c, .int n] ∧ Rngs H a R ∧ R.length ≤ 100000 ∧ (n < c → ∀ l, (wfR R n).getLast? = some l → l.2 + 1 ≠ b + n) ∧ ∀ H' p, Same H H' → H p = none → Rngs H' p (wfR R n ++ adQ b c n) → Q (.ref p) H'
theorem ok_ranges_after_run (D : Df K mg "ranges_after_run" s_ranges_after_run) (G_without_first : Has P w K mg base 1 "without_first" ["ranges", "number"] sp_without_first) (G_add_range : Has P w K mg base 1 "add_range" ["ranges", "first", "last"] sp_add_range) : Has P w K mg base 2 "ranges_after_run" ["ranges", "start", "count", "leaving"] sp_ranges_after_run := by
  refine has_of D sc_ranges_after_run (fun _ _ _ _ _ _ us hl => match us, hl with | [_, _, _, _], _ => rfl) (fun vs H Q E h => ?_) (fun f cdv A outer s₀ H vs Q E hr h => ?_)
  · obtain ⟨a, R, b, c, n, rfl, _⟩ := h
    rfl
  · obtain ⟨a, R, b, c, n, rfl, hR, l4, nt, q⟩ := h
    refine ⟨_, (pss_cons (ps_set (i := 4) sc_ranges_after_run.nd rfl (by first | exact Or.inl rfl | exact Or.inr rfl) (pe_callH G_without_first (hr.mono (by omega)) (by rfl) (pa_cons (pv 0) (pa_cons (pv 3) pa_nil))))
    (pss_cons (ps_if (pt_cmpR op_lt (pv 3) (pv 2) (nomark _)) (pss_one (ps_expr (pe_callH G_add_range (hr.mono (by omega)) (by rfl) (pa_cons (pv 4) (pa_cons (pe_op op_add (pv 1) (pv 3)) (pa_cons (pe_op op_sub (pe_op op_add (pv 1) (pv 2)) pe_int) pa_nil)))))) pss_nil)
    (pss_one (ps_ret (pv 4))))), ?_⟩
    refine ⟨_, rfl, _, rfl, a, R, n, rfl, hR, l4, fun H5 p5 s5 n5 h5 => ?_⟩
    have lw := wfR_len R n
    refine ⟨_, rfl, _, rfl, _, _, rfl, rfl, _, rfl, ite2 (fun e => ?_) (fun e => ?_)⟩
    · have e : n < c := of_decide_eq_true e
      have epc : adQ b c n = [(b + n, b + c - 1)] := if_pos e
      refine ⟨_, rfl, _, rfl, _, rfl, _, _, rfl, rfl, _, rfl, _, rfl, _, _, rfl, rfl, _, _, rfl, rfl, p5, _, _, _, rfl, h5, by omega, nt e, fun H6 b6 h6 => ?_⟩
      refine ⟨_, rfl, q _ p5 (fun x o hx => b6 _ _ (ne_of_none hx n5) (s5 _ _ hx)) n5 ?_⟩
      rw [epc]
      exact h6
    · have e : ¬ n < c := fun z => e (decide_eq_true z)
      have epc : adQ b c n = [] := if_neg e
      refine ⟨_, rfl, q _ p5 s5 n5 ?_⟩
      rw [epc, List.append_nil]
      exact h5
end
end UP

set_option Elab.async false
set_option linter.all false
set_option maxRecDepth 100000
set_option maxHeartbeats 4000000
namespace UP
open PySem PySem.Spec PyProof.Rows L2
/-! ### blocks of pairs -/
theorem paired_snoc {α β : Type} {F : α → β → Prop} : ∀ {xs : List α} (l : List β) (y : β), Paired F xs (l ++ [y]) → ∃ xs0 x, xs = xs0 ++ [x] ∧ Paired F xs0 l ∧ F x y
  | _, [], y, h => by
    cases h with
    | cons h1 h2 =>
      cases h2
      exact ⟨[], _, rfl, .nil, h1⟩
  | _, z :: l, y, h => by
    cases h with
    | cons h1 h2 =>
      obtain ⟨xs0, x, e, h3, h4⟩ := paired_snoc l y h2
      exact ⟨_ :: xs0, x, by rw [e]; rfl, .cons h1 h3, h4⟩
theorem set_lastX {α : Type} : ∀ (l : List α) (x y : α), (l ++ [x]).set l.length y = l ++ [y]
  | [], _, _ => rfl
  | z :: l, x, y => congrArg (z :: ·) (set_lastX l x y)
theorem ixN_lastX {n : Nat} : ixN (n + 1) (-1) = some n := by
  unfold ixN
  simp
  omega
abbrev Blk := Int × Int × Int
def BV (H : Hp) (v : V) (b : Blk) : Prop := ∃ t, v = .ref t ∧ H t = some (.tup [.int b.1, .int b.2.1, .int b.2.2])
theorem BV.same {H H' : Hp} {v : V} {p : Blk} (s : Same H H') (h : BV H v p) : BV H' v p := by
  obtain ⟨t, e, h⟩ := h
  exact ⟨t, e, s _ _ h⟩
theorem BV.grow {H : Hp} {D : Addr} {acc acc' : List V} {v : V} {p : Blk} (hD : H D = some (.lst acc)) (h : BV H v p) : BV (upd H D (.lst acc')) v p := by
  obtain ⟨t, e, h⟩ := h
  refine ⟨t, e, ?_⟩
  rw [upd_ne (ne_of h hD (by intro q; cases q))]
  exact h
theorem BV.but {H H' : Hp} {D : Addr} {acc : List V} {v : V} {p : Blk} (hD : H D = some (.lst acc)) (s : But D H H') (h : BV H v p) : BV H' v p := by
  obtain ⟨t, e, h⟩ := h
  exact ⟨t, e, s _ _ (ne_of h hD (by intro q; cases q)) h⟩
def Blks (H : Hp) (a : Addr) (B : List Blk) : Prop := ∃ xs, H a = some (.lst xs) ∧ Paired (BV H) xs B
theorem bvs_same {H H' : Hp} {xs : List V} {R : List Blk} (s : Same H H') (h : Paired (BV H) xs R) : Paired (BV H') xs R := Paired.imp (fun _ _ => BV.same s) h
theorem bvs_grow {H : Hp} {D : Addr} {acc acc' xs : List V} {R : List Blk} (hD : H D = some (.lst acc)) (h : Paired (BV H) xs R) : Paired (BV (upd H D (.lst acc'))) xs R := Paired.imp (fun _ _ => BV.grow hD) h
theorem Blks.same {H H' : Hp} {a : Addr} {R : List Blk} (s : Same H H') (h : Blks H a R) : Blks H' a R := by
  obtain ⟨xs, hx, hp⟩ := h
  exact ⟨xs, s _ _ hx, bvs_same s hp⟩
def brP (p : Rg) (b n : Int) : List Blk := if 0 < rmR p n then [(p.1, b, rmR p n)] else []
def brR : List Rg → Int → Int → List Blk
  | [], _, _ => []
  | p :: t, b, n => brP p b n ++ brR t (b + rmR p n) (n - rmR p n)
theorem brR_snoc : ∀ (l : List Rg) (p : Rg) (b n : Int), brR (l ++ [p]) b n = brR l b n ++ brP p (b + (n - wfN l n)) (wfN l n)
  | [], p, b, n => by
    show brP p b n ++ [] = [] ++ brP p (b + (n - n)) n
    rw [List.append_nil, List.nil_append, show b + (n - n) = b by omega]
  | x :: t, p, b, n => by
    show brP x b n ++ brR (t ++ [p]) (b + rmR x n) (n - rmR x n) = (brP x b n ++ brR t (b + rmR x n) (n - rmR x n)) ++ brP p (b + (n - wfN t (n - rmR x n))) (wfN t (n - rmR x n))
    rw [brR_snoc t, List.append_assoc, show b + rmR x n + (n - rmR x n - wfN t (n - rmR x n)) = b + (n - wfN t (n - rmR x n)) by omega]
theorem brP_len (p : Rg) (b n : Int) : (brP p b n).length ≤ 1 := by
  unfold brP
  split <;> simp
theorem brR_len : ∀ (R : List Rg) (b n : Int), (brR R b n).length ≤ R.length
  | [], _, _ => Nat.le_refl _
  | p :: t, b, n => by
    have h1 := brP_len p b n
    have h2 := brR_len t (b + rmR p n) (n - rmR p n)
    show (brP p b n ++ brR t (b + rmR p n) (n - rmR p n)).length ≤ _
    rw [List.length_append, List.length_cons]
    omega
def addB (B : List Blk) (x : Blk) : List Blk := match B.getLast? with
  | none => B ++ [x]
  | some l => if l.1 + l.2.2 = x.1 ∧ l.2.1 + l.2.2 = x.2.1 then B.dropLast ++ [(l.1, l.2.1, l.2.2 + x.2.2)] else B ++ [x]
theorem addB_len (B : List Blk) (x : Blk) : (addB B x).length ≤ B.length + 1 := by
  unfold addB
  split
  · rw [List.length_append]
    exact Nat.le_refl _
  · split
    · rw [List.length_append, List.length_dropLast]
      simp only [List.length_cons, List.length_nil]
      omega
    · rw [List.length_append]
      exact Nat.le_refl _
def addsB (B xs : List Blk) : List Blk := xs.foldl addB B
theorem addsB_snoc (B xs : List Blk) (x : Blk) : addsB B (xs ++ [x]) = addB (addsB B xs) x := by
  unfold addsB
  rw [List.foldl_append]
  rfl
theorem addsB_len : ∀ (xs B : List Blk), (addsB B xs).length ≤ B.length + xs.length
  | [], B => Nat.le_refl _
  | x :: t, B => by
    have h1 := addsB_len t (addB B x)
    have h2 := addB_len B x
    show (addsB (addB B x) t).length ≤ _
    rw [List.length_cons]
    omega
def boR : List Run → Option Run → Int → List Rg → List Blk → List Blk
  | [], _, _, _, B => B
  | r :: t, st, b, R, B => boR t (stepR st r.1 r.2) (b + r.2) (wfR R (leavR st r.1 r.2) ++ adP st b r) (addsB B (brR R b (leavR st r.1 r.2)))
theorem boR_snoc : ∀ (l : List Run) (r : Run) (st : Option Run) (b : Int) (R : List Rg) (B : List Blk), boR (l ++ [r]) st b R B = addsB (boR l st b R B) (brR (waR l st b R) (b + lenR l) (leavR (stR l st) r.1 r.2))
  | [], r, st, b, R, B => by
    show addsB B (brR R b (leavR st r.1 r.2)) = addsB B (brR R (b + lenR []) (leavR st r.1 r.2))
    rw [lenR_nil, Int.add_zero]
  | x :: t, r, st, b, R, B => by
    show boR (t ++ [r]) (stepR st x.1 x.2) (b + x.2) (wfR R (leavR st x.1 x.2) ++ adP st b x) (addsB B (brR R b (leavR st x.1 x.2))) = addsB (boR t (stepR st x.1 x.2) (b + x.2) (wfR R (leavR st x.1 x.2) ++ adP st b x) (addsB B (brR R b (leavR st x.1 x.2)))) (brR (waR t (stepR st x.1 x.2) (b + x.2) (wfR R (leavR st x.1 x.2) ++ adP st b x)) (b + lenR (x :: t)) (leavR (stR (x :: t) st) r.1 r.2))
    rw [boR_snoc t, stR_cons, lenR_cons, Int.add_assoc]
theorem boR_len : ∀ (l : List Run) (st : Option Run) (b : Int) (R : List Rg) (B : List Blk), (boR l st b R B).length ≤ B.length + l.length * (R.length + l.length)
  | [], _, _, _, _ => by
    show _ ≤ _ + 0 * _
    rw [Nat.zero_mul]
    exact Nat.le_refl _
  | r :: t, st, b, R, B => by
    have h1 := boR_len t (stepR st r.1 r.2) (b + r.2) (wfR R (leavR st r.1 r.2) ++ adP st b r) (addsB B (brR R b (leavR st r.1 r.2)))
    have h2 := addsB_len (brR R b (leavR st r.1 r.2)) B
    have h3 := brR_len R b (leavR st r.1 r.2)
    have h4 := wfR_len R (leavR st r.1 r.2)
    have h5 := adP_len st b r
    rw [List.length_append] at h1
    show (boR t (stepR st r.1 r.2) (b + r.2) (wfR R (leavR st r.1 r.2) ++ adP st b r) (addsB B (brR R b (leavR st r.1 r.2)))).length ≤ _
    rw [List.length_cons, Nat.succ_mul]
    have h6 : t.length * ((wfR R (leavR st r.1 r.2)).length + (adP st b r).length + t.length) ≤ t.length * (R.length + (t.length + 1)) := Nat.mul_le_mul_left _ (by omega)
    omega
theorem shaped_not {B : List Blk} : B = [] ∨ ∃ B0 l, B = B0 ++ [l] := by
  rcases List.eq_nil_or_concat B with e | ⟨B0, l, e⟩
  · exact .inl e
  · exact .inr ⟨B0, l, by rw [e, List.concat_eq_append]⟩
section
variable {P : Program} {w : World} {K : PySem.W.Frag} {mg : Str → Option Value} {base : Heap}
/-! blocks_of_run: slots 0:ranges 1:start 2:leaving 3:blocks 4:first 5:last 6:size -/
abbrev s_blocks_of_run : Stmt := topS 25
theorem sc_blocks_of_run : FnScope ["ranges", "start", "leaving", "blocks", "first", "last", "size"] ["ranges", "start", "leaving"] (defScope s_blocks_of_run) := ⟨rfl, rfl, rfl, by decide +kernel, rfl, by decide +kernel, by decide +kernel⟩
def sp_blocks_of_run : Sp := fun vs H Q _ => ∃ (a : Addr) (R : List Rg) (b n : Int), vs = [.ref a, .int b, .int n] ∧ Rngs H a R ∧ R.length ≤ 100000 ∧ ∀ H' p, Same H H' → H p = none → Blks H' p (brR R b n) → Q (.ref p) H'
theorem ok_blocks_of_run (D : Df K mg "blocks_of_run" s_blocks_of_run) (T : Tx mg) : Has P w K mg base 1 "blocks_of_run" ["ranges", "start", "leaving"] sp_blocks_of_run := by
  refine has_of D sc_blocks_of_run (fun _ _ _ _ _ _ us hl => match us, hl with | [_, _, _], _ => rfl) (fun vs H Q E h => ?_) (fun f cdv A outer s₀ H vs Q E hr h => ?_)
  · obtain ⟨a, R, b, n, rfl, _⟩ := h
    rfl
  · obtain ⟨a, R, b, n, rfl, ⟨xs, hx, hp⟩, l4, q⟩ := h
    have lx : xs.length = R.length := Paired.len hp
    refine ⟨_, (pss_cons (ps_set (i := 3) sc_blocks_of_run.nd rfl (by first | exact Or.inl rfl | exact Or.inr rfl) (pe_lst pa_nil))
    (pss_cons (ps_for PassesOwn.never rfl (pi_list (pv 0)) (pg_tup rfl (pgs_cons (pg_name (i := 4) sc_blocks_of_run.nd rfl (by first | exact Or.inl rfl | exact Or.inr rfl)) (pgs_cons (pg_name (i := 5) sc_blocks_of_run.nd rfl (by first | exact Or.inl rfl | exact Or.inr rfl)) pgs_nil)))
      (pss_cons (ps_set (i := 6) sc_blocks_of_run.nd rfl (by first | exact Or.inl rfl | exact Or.inr rfl) (pe_callB (call_min2 rfl) (by rfl) T.n_min (by decide +kernel) (pa_cons (pv 2) (pa_cons (pe_op op_add (pe_op op_sub (pv 5) (pv 4)) pe_int) pa_nil))))
    (C8.pss_cut (ps_if (pt_cmpR op_gt (pv 6) pe_int (nomark _)) (pss_one (ps_expr (pe_bm PySem.F.plainAttrs_list PySem.F.slot_list_append PySem.F.type_list_append mt_append (pv 3) (pa_cons (pe_tup (pa_cons (pv 4) (pa_cons (pv 1) (pa_cons (pv 6) pa_nil)))) pa_nil)))) pss_nil)
    (pss_cons (ps_aug (i := 1) sc_blocks_of_run.nd rfl (by first | exact Or.inl rfl | exact Or.inr rfl) (pv 6) ip_add)
    (pss_one (ps_aug (i := 2) sc_blocks_of_run.nd rfl (by first | exact Or.inl rfl | exact Or.inr rfl) (pv 6) ip_sub))))))
    (pss_one (ps_ret (pv 3))))), ?_⟩
    refine ⟨Nat.zero_le _, fun p np => ?_⟩
    refine ⟨_, rfl, a, rfl, ⟨xs, .of (same_upd np _ _ hx)⟩, for_list (K := K) (a := a) (xs := xs) (fun i σ H' => ∃ c m y4 y5 y6, m = wfN (R.take i) n ∧ c = b + (n - wfN (R.take i) n) ∧ σ = [some (.ref a), some (.int c), some (.int m), some (.ref p), y4, y5, y6] ∧ Same H H' ∧ ∃ ys, H' p = some (.lst ys) ∧ Paired (BV H') ys (brR (R.take i) b n))
      ⟨b, n, none, none, none, rfl, (by show b = b + (n - n); omega), rfl, same_upd np, [], upd_same, .nil⟩ (fun i σ H' _ hP => ?_) (fun i x σ H1 ex hP => ?_) (fun σ H1 hP => ?_)⟩
    · obtain ⟨_, _, _, _, _, _, _, _, sm, _⟩ := hP
      exact .of (sm _ _ hx)
    · obtain ⟨c, m, y4, y5, y6, em, ecc, rfl, sm, ys, hL, hy⟩ := hP
      obtain ⟨r, er, hr1⟩ := Paired.at hp ex
      have hi : i < xs.length := (List.getElem?_eq_some_iff.mp ex).1
      obtain ⟨t, rfl, ht⟩ := PV.same sm hr1
      have el : wfN (R.take (i + 1)) n = m - rmR r m := by rw [take_snoc er, wfN_snoc, em]
      have ec : brR (R.take (i + 1)) b n = brR (R.take i) b n ++ brP r c m := by rw [take_snoc er, brR_snoc, ecc, em]
      refine ⟨t, _, rfl, .of ht, rfl, _, _, rfl, _, _, rfl, rfl, ?_⟩
      refine ⟨_, rfl, _, rfl, _, rfl, _, _, rfl, rfl, _, _, rfl, rfl, _, _, rfl, ?_⟩
      refine ⟨fun σ' H' => σ' = [some (.ref a), some (.int c), some (.int m), some (.ref p), some (.int r.1), some (.int r.2), some (.int (rmR r m))] ∧ Same H H' ∧ ∃ ys, H' p = some (.lst ys) ∧ Paired (BV H') ys (brR (R.take (i + 1)) b n), ?_, fun σ' H5 hM => ?_⟩
      · refine ⟨_, rfl, _, _, rfl, rfl, _, rfl, ite2 (fun e => ?_) (fun e => ?_)⟩
        · have e : 0 < rmR r m := of_decide_eq_true e
          have epc : brP r c m = [(r.1, c, rmR r m)] := if_pos e
          refine ⟨_, rfl, .inl ⟨rfl, _, SqL.of hL⟩, _, rfl, _, rfl, _, rfl, (by show 3 ≤ sizeLine; decide), fun u nn => ⟨p, _, _, rfl, rfl, same_upd nn _ _ hL, ?_, ?_⟩⟩
          · have h1 := Paired.len hy
            have h2 := brR_len (R.take i) b n
            rw [List.length_take] at h2
            exact small (by omega)
          · refine ⟨rfl, same_grow np (sm.trans (same_upd nn)), _, upd_same, ?_⟩
            rw [ec, epc]
            exact Paired.app (bvs_grow (same_upd nn _ _ hL) (bvs_same (same_upd nn) hy)) (.cons (BV.grow (same_upd nn _ _ hL) ⟨_, rfl, upd_same⟩) .nil)
        · have e : ¬ 0 < rmR r m := fun z => e (decide_eq_true z)
          have epc : brP r c m = [] := if_neg e
          refine ⟨rfl, sm, _, hL, ?_⟩
          rw [ec, epc, List.append_nil]
          exact hy
      · obtain ⟨rfl, s5, ys5, hL5, hy5⟩ := hM
        exact ⟨_, rfl, _, rfl, _, _, rfl, rfl, _, rfl, _, rfl, _, _, rfl, rfl, _, _, _, _, _, el.symm, (by show c + rmR r m = b + (n - wfN (R.take (i + 1)) n); rw [el]; omega), rfl, s5, ys5, hL5, hy5⟩
    · obtain ⟨c, m, y3, y4, y5, em, ecc, rfl, sm, ys, hL, hy⟩ := hP
      rw [lx, List.take_length] at hy
      exact ⟨_, rfl, q H1 p sm np ⟨ys, hL, hy⟩⟩
/-! add_block: slots 0:blocks 1:first 2:second 3:count 4:last_first 5:last_second 6:size -/
abbrev s_add_block : Stmt := topS 26
theorem sc_add_block : FnScope ["blocks", "first", "second", "count", "last_first", "last_second", "size"] ["blocks", "first", "second", "count"] (defScope s_add_block) := ⟨rfl, rfl, rfl, by decide +kernel, rfl, by decide +kernel, by decide +kernel⟩
def sp_add_block : Sp := fun vs H Q _ => ∃ (a : Addr) (B : List Blk) (x : Blk), vs = [.ref a, .int x.1, .int x.2.1, .int x.2.2] ∧ Blks H a B ∧ B.length ≤ 900000 ∧ ∀ H', But a H H' → Blks H' a (addB B x) → Q .non H'
theorem ok_add_block (D : Df K mg "add_block" s_add_block) : Has P w K mg base 1 "add_block" ["blocks", "first", "second", "count"] sp_add_block := by
  refine has_of D sc_add_block (fun _ _ _ _ _ _ us hl => match us, hl with | [_, _, _, _], _ => rfl) (fun vs H Q E h => ?_) (fun f cdv A outer s₀ H vs Q E hr h => ?_)
  · obtain ⟨a, R, x, rfl, _⟩ := h
    rfl
  · obtain ⟨a, B, x, rfl, ⟨xs, hx, hp⟩, l4, q⟩ := h
    have lx : xs.length = B.length := Paired.len hp
    have app : addB B x = B ++ [x] → ∀ (p : Addr), H p = none → Q .non (upd (upd H p (.tup [.int x.1, .int x.2.1, .int x.2.2])) a (.lst (xs ++ [.ref p]))) := by
      intro e p np
      have hx1 := same_upd (o := .tup [.int x.1, .int x.2.1, .int x.2.2]) np _ _ hx
      refine q _ ((Same.but (same_upd np)).trans but_upd) ⟨_, upd_same, ?_⟩
      rw [e]
      exact Paired.app (bvs_grow hx1 (bvs_same (same_upd np) hp)) (.cons (BV.grow hx1 ⟨_, rfl, upd_same⟩) .nil)
    refine ⟨_, (pss_cons (ps_if (pt_truth (pv 0) (by intro _; rfl)) (pss_cons (ps_asg (pe_ix ix_list (pv 0) (pe_un un_neg pe_int) (fun _ _ => rfl)) (pg_tup rfl (pgs_cons (pg_name (i := 4) sc_add_block.nd rfl (by first | exact Or.inl rfl | exact Or.inr rfl)) (pgs_cons (pg_name (i := 5) sc_add_block.nd rfl (by first | exact Or.inl rfl | exact Or.inr rfl)) (pgs_cons (pg_name (i := 6) sc_add_block.nd rfl (by first | exact Or.inl rfl | exact Or.inr rfl)) pgs_nil)))))
    (pss_one (ps_if (PW.pt (pw_and (pt_cmpR op_eq (pe_op op_add (pv 4) (pv 6)) (pv 1) (nomark _)) (pw_and1 (pt_cmpR op_eq (pe_op op_add (pv 5) (pv 6)) (pv 2) (nomark _))))) (pss_cons (ps_asg (pe_tup (pa_cons (pv 4) (pa_cons (pv 5) (pa_cons (pe_op op_add (pv 6) (pv 3)) pa_nil)))) (pg_sub (pv 0) (pe_un un_neg pe_int) set_list))
    (pss_one ps_retN)) pss_nil))) pss_nil)
    (pss_one (ps_expr (pe_bm PySem.F.plainAttrs_list PySem.F.slot_list_append PySem.F.type_list_append mt_append (pv 0) (pa_cons (pe_tup (pa_cons (pv 1) (pa_cons (pv 2) (pa_cons (pv 3) pa_nil)))) pa_nil))))), ?_⟩
    rcases shaped_not (B := B) with e0 | ⟨B0, l, e0⟩
    · subst e0
      cases hp
      refine ⟨_, rfl, false, .inl ⟨[], .of hx, rfl⟩, iteF ?_⟩
      exact ⟨_, rfl, .inl ⟨rfl, _, SqL.of hx⟩, _, rfl, _, rfl, _, rfl, (by show 3 ≤ sizeLine; decide), fun u nn => ⟨a, _, _, rfl, rfl, same_upd nn _ _ hx, small (by show 0 ≤ _; omega), app rfl u nn⟩⟩
    · subst e0
      obtain ⟨ys0, y, rfl, hy0, ⟨tl, rfl, htl⟩⟩ := paired_snoc B0 l hp
      have exl : atI (ys0 ++ [V.ref tl]) (-1) = some (.ref tl) := atI_last _ _
      have tr : (!(ys0 ++ [V.ref tl]).isEmpty) = true := by cases ys0 <;> rfl
      refine ⟨_, rfl, true, .inl ⟨_, .of hx, tr.symm⟩, iteT ?_⟩
      refine ⟨_, rfl, 1, rfl, a, _, -1, _, rfl, rfl, .of hx, exl, tl, _, rfl, .of htl, rfl, _, _, rfl, _, _, rfl, _, _, rfl, rfl, ?_⟩
      have ap2 : ¬ (l.1 + l.2.2 = x.1 ∧ l.2.1 + l.2.2 = x.2.1) → addB (B0 ++ [l]) x = (B0 ++ [l]) ++ [x] := by
        intro z
        unfold addB
        rw [List.getLast?_concat]
        exact if_neg z
      have lx2 : (ys0 ++ [V.ref tl]).length ≤ 900000 := by rw [lx]; exact l4
      refine ⟨_, rfl, _, rfl, _, _, rfl, rfl, _, rfl, rfl, _, rfl, ite2 (fun e1 => ?_) (fun e1 => ?_)⟩
      · have e1 : l.1 + l.2.2 = x.1 := V.int.inj (of_decide_eq_true e1)
        refine ⟨_, rfl, _, rfl, _, _, rfl, rfl, _, rfl, rfl, _, rfl, ite2 (fun e2 => ?_) (fun e2 => ?_)⟩
        · have e2 : l.2.1 + l.2.2 = x.2.1 := V.int.inj (of_decide_eq_true e2)
          have er : addB (B0 ++ [l]) x = B0 ++ [(l.1, l.2.1, l.2.2 + x.2.2)] := by
            unfold addB
            rw [List.getLast?_concat, List.dropLast_concat]
            exact if_pos ⟨e1, e2⟩
          refine ⟨_, rfl, _, rfl, _, rfl, _, rfl, _, _, rfl, rfl, (by show 3 ≤ sizeLine; decide), fun u nn => ⟨_, rfl, 1, rfl, a, _, -1, ys0.length, rfl, rfl, same_upd nn _ _ hx, ?_, ?_⟩⟩
          · rw [List.length_append]
            exact ixN_lastX
          · rw [set_lastX]
            have hx1 := same_upd (o := .tup [.int l.1, .int l.2.1, .int (l.2.2 + x.2.2)]) nn _ _ hx
            refine q _ ((Same.but (same_upd nn)).trans but_upd) ⟨_, upd_same, ?_⟩
            rw [er]
            exact Paired.app (bvs_grow hx1 (bvs_same (same_upd nn) hy0)) (.cons (BV.grow hx1 ⟨_, rfl, upd_same⟩) .nil)
        · have e2 : ¬ l.2.1 + l.2.2 = x.2.1 := fun z => e2 (decide_eq_true (by show V.int (l.2.1 + l.2.2) = V.int x.2.1; rw [z]))
          exact ⟨_, rfl, .inl ⟨rfl, _, SqL.of hx⟩, _, rfl, _, rfl, _, rfl, (by show 3 ≤ sizeLine; decide), fun u nn => ⟨a, _, _, rfl, rfl, same_upd nn _ _ hx, small (by omega), app (ap2 fun z => e2 z.2) u nn⟩⟩
      · have e1 : ¬ l.1 + l.2.2 = x.1 := fun z => e1 (decide_eq_true (by show V.int (l.1 + l.2.2) = V.int x.1; rw [z]))
        refine iteF ?_
        exact ⟨_, rfl, .inl ⟨rfl, _, SqL.of hx⟩, _, rfl, _, rfl, _, rfl, (by show 3 ≤ sizeLine; decide), fun u nn => ⟨a, _, _, rfl, rfl, same_upd nn _ _ hx, small (by omega), app (ap2 fun z => e1 z.1) u nn⟩⟩
end
end UP

set_option Elab.async false
set_option linter.all false
set_option maxRecDepth 100000
set_option maxHeartbeats 4000000
namespace UP
open PySem PySem.Spec PyProof.Rows L2
def pgR : List Blk → Int → Option Int
  | [], _ => none
  | x :: t, p => if x.1 ≤ p ∧ p < x.1 + x.2.2 then some (x.2.1 + p - x.1) else if x.2.1 ≤ p ∧ p < x.2.1 + x.2.2 then some (x.1 + p - x.2.1) else pgR t p
def oI : Option Int → V
  | none => .non
  | some i => .int i
theorem drop_at {α : Type} {l : List α} {i : Nat} {x : α} (h : l[i]? = some x) : l.drop i = x :: l.drop (i + 1) := by
  obtain ⟨hi, e⟩ := List.getElem?_eq_some_iff.mp h
  rw [List.drop_eq_getElem_cons hi, e]
def blR (rs : List Run) : List Blk := boR rs none 0 [] []
theorem Rngs.butB {H H' : Hp} {D a : Addr} {acc : List V} {R : List Rg} (hD : H D = some (.lst acc)) (n : a ≠ D) (s : But D H H') (h : Rngs H a R) : Rngs H' a R := by
  obtain ⟨xs, hx, hp⟩ := h
  refine ⟨xs, s _ _ n hx, Paired.imp (fun v p z => ?_) hp⟩
  obtain ⟨t, e, ht⟩ := z
  exact ⟨t, e, s _ _ (ne_of ht hD (by intro q; cases q)) ht⟩
theorem Runs.butB {H H' : Hp} {D a : Addr} {acc : List V} {R : List Run} (hD : H D = some (.lst acc)) (n : a ≠ D) (s : But D H H') (h : Runs H a R) : Runs H' a R := by
  obtain ⟨xs, hx, hp⟩ := h
  refine ⟨xs, s _ _ n hx, Paired.imp (fun v p z => ?_) hp⟩
  obtain ⟨t, e, ht⟩ := z
  exact ⟨t, e, s _ _ (ne_of ht hD (by intro q; cases q)) ht⟩
theorem StV.butB {H H' : Hp} {D : Addr} {acc : List V} {v : V} {st : Option Run} (hD : H D = some (.lst acc)) (s : But D H H') (h : StV H v st) : StV H' v st := by
  cases st with
  | none => exact h
  | some r =>
    obtain ⟨t, e, ht⟩ := h
    exact ⟨t, e, s _ _ (ne_of ht hD (by intro q; cases q)) ht⟩
/-- what was there before stays, whatever is done to a list that is new -/
theorem Same.butB {H H1 H' : Hp} {D : Addr} (n : H D = none) (s : Same H H1) (b : But D H1 H') : Same H H' := fun a o e => b _ _ (ne_of_none e n) (s _ _ e)
section
variable {P : Program} {w : World} {K : PySem.W.Frag} {mg : Str → Option Value} {base : Heap}
/-! blocks_of: slots 0:runs 1:blocks 2:ranges 3:state 4:start 5:kind 6:count 7:leaving 8:first 9:second 10:size -/
abbrev s_blocks_of : Stmt := topS 27
theorem sc_blocks_of : FnScope ["runs", "blocks", "ranges", "state", "start", "kind", "count", "leaving", "first", "second", "size"] ["runs"] (defScope s_blocks_of) := ⟨rfl, rfl, rfl, by decide +kernel, rfl, by decide +kernel, by decide +kernel⟩
def sp_blocks_of : Sp := fun vs H Q _ => ∃ (a : Addr) (rs : List Run), vs = [.ref a] ∧ Runs H a rs ∧ rs.length ≤ 400 ∧ (∀ r ∈ rs, 1 ≤ r.2) ∧ Alt rs ∧ ∀ H' p, Same H H' → H p = none → Blks H' p (blR rs) → Q (.ref p) H'
theorem ok_blocks_of (D : Df K mg "blocks_of" s_blocks_of) (G_leaving_number : Has P w K mg base 1 "leaving_number" ["state", "kind", "count"] sp_leaving_number) (G_blocks_of_run : Has P w K mg base 1 "blocks_of_run" ["ranges", "start", "leaving"] sp_blocks_of_run)
    (G_add_block : Has P w K mg base 1 "add_block" ["blocks", "first", "second", "count"] sp_add_block) (G_ranges_after_run : Has P w K mg base 2 "ranges_after_run" ["ranges", "start", "count", "leaving"] sp_ranges_after_run) (G_state_after_run : Has P w K mg base 2 "state_after_run" ["state", "kind", "count"] sp_state_after_run) :
    Has P w K mg base 3 "blocks_of" ["runs"] sp_blocks_of := by
  refine has_of D sc_blocks_of (fun _ _ _ _ _ _ us hl => match us, hl with | [_], _ => rfl) (fun vs H Q E h => ?_) (fun f cdv A outer s₀ H vs Q E hr h => ?_)
  · obtain ⟨a, R, rfl, _⟩ := h
    rfl
  · obtain ⟨a, rs, rfl, ⟨xs, hx, hpr⟩, l4, pos, al, q⟩ := h
    have lx : xs.length = rs.length := Paired.len hpr
    refine ⟨_, (pss_cons (ps_set (i := 1) sc_blocks_of.nd rfl (by first | exact Or.inl rfl | exact Or.inr rfl) (pe_lst pa_nil))
    (pss_cons (ps_set (i := 2) sc_blocks_of.nd rfl (by first | exact Or.inl rfl | exact Or.inr rfl) (pe_lst pa_nil))
    (pss_cons (ps_set (i := 3) sc_blocks_of.nd rfl (by first | exact Or.inl rfl | exact Or.inr rfl) pe_non)
    (pss_cons (ps_set (i := 4) sc_blocks_of.nd rfl (by first | exact Or.inl rfl | exact Or.inr rfl) pe_int)
    (pss_cons (ps_for PassesOwn.never rfl (pi_list (pv 0)) (pg_tup rfl (pgs_cons (pg_name (i := 5) sc_blocks_of.nd rfl (by first | exact Or.inl rfl | exact Or.inr rfl)) (pgs_cons (pg_name (i := 6) sc_blocks_of.nd rfl (by first | exact Or.inl rfl | exact Or.inr rfl)) pgs_nil)))
      (pss_cons (ps_set (i := 7) sc_blocks_of.nd rfl (by first | exact Or.inl rfl | exact Or.inr rfl) (pe_callH G_leaving_number (hr.mono (by omega)) (by rfl) (pa_cons (pv 3) (pa_cons (pv 5) (pa_cons (pv 6) pa_nil)))))
    (pss_cons (ps_for PassesOwn.never rfl (pi_list (pe_callH G_blocks_of_run (hr.mono (by omega)) (by rfl) (pa_cons (pv 2) (pa_cons (pv 4) (pa_cons (pv 7) pa_nil))))) (pg_tup rfl (pgs_cons (pg_name (i := 8) sc_blocks_of.nd rfl (by first | exact Or.inl rfl | exact Or.inr rfl)) (pgs_cons (pg_name (i := 9) sc_blocks_of.nd rfl (by first | exact Or.inl rfl | exact Or.inr rfl)) (pgs_cons (pg_name (i := 10) sc_blocks_of.nd rfl (by first | exact Or.inl rfl | exact Or.inr rfl)) pgs_nil))))
      (pss_one (ps_expr (pe_callH G_add_block (hr.mono (by omega)) (by rfl) (pa_cons (pv 1) (pa_cons (pv 8) (pa_cons (pv 9) (pa_cons (pv 10) pa_nil))))))))
    (pss_cons (ps_set (i := 2) sc_blocks_of.nd rfl (by first | exact Or.inl rfl | exact Or.inr rfl) (pe_callH G_ranges_after_run (hr.mono (by omega)) (by rfl) (pa_cons (pv 2) (pa_cons (pv 4) (pa_cons (pv 6) (pa_cons (pv 7) pa_nil))))))
    (pss_cons (ps_set (i := 3) sc_blocks_of.nd rfl (by first | exact Or.inl rfl | exact Or.inr rfl) (pe_callH G_state_after_run (hr.mono (by omega)) (by rfl) (pa_cons (pv 3) (pa_cons (pv 5) (pa_cons (pv 6) pa_nil)))))
    (pss_one (ps_aug (i := 4) sc_blocks_of.nd rfl (by first | exact Or.inl rfl | exact Or.inr rfl) (pv 6) ip_add)))))))
    (pss_one (ps_ret (pv 1)))))))), ?_⟩
    refine ⟨Nat.zero_le _, fun p np => ⟨Nat.zero_le _, fun e ne => ?_⟩⟩
    have sp := same_upd (o := .lst []) np
    have se := same_upd (o := .lst []) ne
    have ep : e ≠ p := fun z => by rw [z, upd_same] at ne; cases ne
    have neH : H e = none := sp.free ne
    have hp0 : (upd (upd H p (.lst [])) e (.lst [])) p = some (.lst []) := by rw [upd_ne ep.symm, upd_same]
    refine ⟨_, rfl, a, rfl, ⟨xs, .of (se _ _ (sp _ _ hx))⟩, for_list (K := K) (a := a) (xs := xs) (fun i σ H' => ∃ v b c y5 y6 y7 y8 y9 y10, b = lenR (rs.take i) ∧ σ = [some (.ref a), some (.ref p), some (.ref c), some v, some (.int b), y5, y6, y7, y8, y9, y10] ∧ Same H H' ∧ c ≠ p ∧ StV H' v (stR (rs.take i) none) ∧ Rngs H' c (waR (rs.take i) none 0 []) ∧ Blks H' p (blR (rs.take i)))
      ⟨.non, 0, e, none, none, none, none, none, none, rfl, rfl, sp.trans se, ep, rfl, ⟨[], upd_same, .nil⟩, ⟨[], hp0, .nil⟩⟩ (fun i σ H' _ hP => ?_) (fun i x σ H4 ex hP => ?_) (fun σ H4 hP => ?_)⟩
    · obtain ⟨_, _, _, _, _, _, _, _, _, _, _, sm, _⟩ := hP
      exact .of (sm _ _ hx)
    · obtain ⟨v, b, c, y5, y6, y7, y8, y9, y10, rfl, rfl, sm, cp, hv, hR4, hB4⟩ := hP
      obtain ⟨r, er, hr1⟩ := Paired.at hpr ex
      obtain ⟨t, rfl, ht⟩ := RunV.same sm hr1
      have hi : i < xs.length := (List.getElem?_eq_some_iff.mp ex).1
      have c1 : 1 ≤ r.2 := pos r (List.mem_of_getElem? er)
      have el : lenR (rs.take (i + 1)) = lenR (rs.take i) + r.2 := by rw [take_snoc er, lenR_snoc]
      have es : stR (rs.take (i + 1)) none = stepR (stR (rs.take i) none) r.1 r.2 := by rw [take_snoc er, stR_snoc]
      have ew : waR (rs.take (i + 1)) none 0 [] = wfR (waR (rs.take i) none 0 []) (leavR (stR (rs.take i) none) r.1 r.2) ++ adP (stR (rs.take i) none) (lenR (rs.take i)) r := by rw [take_snoc er, waR_snoc, Int.zero_add]
      have eb : blR (rs.take (i + 1)) = addsB (blR (rs.take i)) (brR (waR (rs.take i) none 0 []) (lenR (rs.take i)) (leavR (stR (rs.take i) none) r.1 r.2)) := by
        unfold blR
        rw [take_snoc er, boR_snoc, Int.zero_add]
      have lw := waR_len (rs.take i) none 0 []
      have lb := boR_len (rs.take i) none 0 [] []
      have lb2 : (blR (rs.take i)).length ≤ 160000 := by
        refine Nat.le_trans lb ?_
        have h1 : (rs.take i).length ≤ 400 := by rw [List.length_take]; omega
        have h2 := Nat.mul_le_mul h1 h1
        show ([] : List Blk).length + (rs.take i).length * (0 + (rs.take i).length) ≤ _
        rw [List.length_nil, Nat.zero_add, Nat.zero_add]
        omega
      rw [List.length_take, List.length_nil] at lw
      have nt := no_touch pos al er
      rw [el, es, ew, eb]
      generalize lenR (rs.take i) = b at *
      generalize stR (rs.take i) none = st at *
      generalize waR (rs.take i) none 0 [] = R at *
      generalize blR (rs.take i) = B at *
      clear lb
      refine ⟨t, _, rfl, .of ht, rfl, _, _, rfl, _, _, rfl, rfl, ?_⟩
      refine ⟨_, rfl, _, rfl, _, rfl, v, st, r.1, r.2, rfl, hv, ?_⟩
      have hlv : ∃ n, leavR st r.1 r.2 = n := ⟨_, rfl⟩
      obtain ⟨n, hn⟩ := hlv
      have had : adQ b r.2 n = adP st b r := by rw [← hn]; rfl
      rw [hn, ← had]
      rw [hn] at nt
      -- the blocks of the run
      refine ⟨_, rfl, _, rfl, _, rfl, c, R, b, n, rfl, hR4, by omega, fun H5 p5 s5 n5 h5 => ?_⟩
      have lbr := brR_len R b n
      obtain ⟨zs, hz, hzp⟩ := h5
      have lz : zs.length = (brR R b n).length := Paired.len hzp
      have p5p : p5 ≠ p := by
        obtain ⟨_, hB, _⟩ := hB4
        exact (ne_of_none hB n5).symm
      have hR5 := hR4.same s5
      have hv5 := hv.same s5
      have hB5 := hB4.same s5
      refine ⟨p5, rfl, ⟨zs, .of hz⟩, for_list (K := K) (a := p5) (xs := zs) (fun j σ H' => ∃ y8 y9 y10, σ = [some (.ref a), some (.ref p), some (.ref c), some v, some (.int b), some (.str r.1), some (.int r.2), some (.int n), y8, y9, y10] ∧ But p H5 H' ∧ Blks H' p (addsB B ((brR R b n).take j)))
        ⟨_, _, _, rfl, But.refl, hB5⟩ (fun j σ H' _ hP => ?_) (fun j x σ H6 ex6 hP => ?_) (fun σ H6 hP => ?_)⟩
      · obtain ⟨_, _, _, _, bt, _⟩ := hP
        exact .of (bt _ _ p5p hz)
      · obtain ⟨y8, y9, y10, rfl, bt, hB6⟩ := hP
        obtain ⟨k, ek, hk⟩ := Paired.at hzp ex6
        obtain ⟨_, hB5x, _⟩ := id hB5
        obtain ⟨tk, rfl, htk⟩ := BV.but hB5x bt hk
        refine ⟨tk, _, rfl, .of htk, rfl, _, _, rfl, _, _, rfl, _, _, rfl, rfl, ?_⟩
        have la := addsB_len ((brR R b n).take j) B
        rw [List.length_take] at la
        refine ⟨_, rfl, _, rfl, _, rfl, _, rfl, p, _, k, rfl, hB6, by omega, fun H7 b7 h7 => ⟨_, _, _, rfl, bt.trans b7, ?_⟩⟩
        rw [take_snoc ek, addsB_snoc]
        exact h7
      · obtain ⟨y8, y9, y10, rfl, bt, hB6⟩ := hP
        rw [lz, List.take_length] at hB6
        obtain ⟨_, hB5x, _⟩ := id hB5
        have hR6 := hR5.butB hB5x cp bt
        have hv6 := hv5.butB hB5x bt
        have s6 : Same H H6 := Same.butB np (sm.trans s5) bt
        refine ⟨_, rfl, _, rfl, _, rfl, _, rfl, c, R, b, r.2, n, rfl, hR6, by omega, nt, fun H7 p7 s7 n7 h7 => ?_⟩
        refine ⟨_, rfl, _, rfl, _, rfl, v, st, r.1, r.2, rfl, hv6.same s7, c1, fun H8 v8 s8 h8 => ?_⟩
        have p7p : p7 ≠ p := by
          obtain ⟨_, hB, _⟩ := hB6
          exact (ne_of_none hB n7).symm
        exact ⟨_, rfl, _, rfl, _, _, rfl, rfl, v8, _, p7, _, _, _, _, _, _, rfl, rfl, s6.trans (s7.trans s8), p7p, h8, h7.same s8, (hB6.same s7).same s8⟩
    · obtain ⟨v, b, c, y5, y6, y7, y8, y9, y10, rfl, rfl, sm, cp, hv, hR4, hB4⟩ := hP
      rw [lx, List.take_length] at hB4
      exact ⟨_, rfl, q H4 p sm np hB4⟩
end
end UP

set_option Elab.async false
set_option linter.all false
set_option maxRecDepth 100000
set_option maxHeartbeats 4000000
namespace UP
open PySem PySem.Spec PyProof.Rows L2
/-! ### pairs written out -/
abbrev Pr := Int × Int
def zpL : List Int → Int → List Pr
  | [], _ => []
  | p :: t, b => (p, b) :: zpL t (b + 1)
theorem zpL_app : ∀ (l m : List Int) (b : Int), zpL (l ++ m) b = zpL l b ++ zpL m (b + (l.length : Int))
  | [], m, b => by
    show zpL m b = zpL m (b + ((0 : Nat) : Int))
    rw [show b + ((0 : Nat) : Int) = b by omega]
  | p :: t, m, b => by
    show (p, b) :: zpL (t ++ m) (b + 1) = (p, b) :: (zpL t (b + 1) ++ zpL m (b + ((p :: t).length : Int)))
    rw [zpL_app t m, List.length_cons, show b + 1 + (t.length : Int) = b + ((t.length + 1 : Nat) : Int) by omega]
def flX (x : Blk) : List Pr := zpL (posL x.1 x.2.2.toNat) x.2.1
def flB (B : List Blk) : List Pr := B.flatMap flX
theorem flB_app (B C : List Blk) : flB (B ++ C) = flB B ++ flB C := List.flatMap_append ..
theorem flB_one (x : Blk) : flB [x] = flX x := by
  show flX x ++ [] = _
  rw [List.append_nil]
def PosB (B : List Blk) : Prop := ∀ x ∈ B, 0 < x.2.2
theorem posL_take : ∀ (n k : Nat) (a : Int), k ≤ n → (posL a n).take k = posL a k := by
  intro n k a h
  have e : n = k + (n - k) := by omega
  rw [e, posL_app, List.take_append_of_le_length (by rw [posL_len]; exact Nat.le_refl _), List.take_of_length_le (by rw [posL_len]; exact Nat.le_refl _)]
theorem fl_br {c : Int} : ∀ {R : List Rg} {b n : Int}, Gd R c → 0 ≤ n → flB (brR R b n) = zpL ((flR R).take n.toNat) b
  | [], b, n, _, _ => by
    show ([] : List Pr) = zpL (([] : List Int).take _) b
    rw [List.take_nil]
    rfl
  | p :: t, b, n, g, hn => by
    have g1 := g.1
    have h := rm_le (p := p) g1 hn
    have ih := fl_br (b := b + rmR p n) (n := n - rmR p n) g.2.2.2 (by omega)
    show flB (brP p b n ++ brR t (b + rmR p n) (n - rmR p n)) = zpL ((flP p ++ flR t).take n.toNat) b
    have lp : (flP p).length = (p.2 - p.1 + 1).toNat := posL_len _ _
    have e1 : flB (brP p b n) = zpL (posL p.1 (rmR p n).toNat) b := by
      by_cases c : 0 < rmR p n
      · rw [show brP p b n = [(p.1, b, rmR p n)] from if_pos c, flB_one]
        rfl
      · rw [show brP p b n = [] from if_neg c, show (rmR p n).toNat = 0 by omega]
        rfl
    rw [flB_app, ih, e1, List.take_append, zpL_app, lp]
    have e2 : (flP p).take n.toNat = posL p.1 (rmR p n).toNat := by
      by_cases c : rmR p n < p.2 - p.1 + 1
      · have e := h.2.2.2 c
        unfold flP
        rw [posL_take _ _ _ (by omega), e]
      · rw [List.take_of_length_le (by omega)]
        unfold flP
        rw [show (p.2 - p.1 + 1).toNat = (rmR p n).toNat by omega]
    rw [e2, posL_len, show ((rmR p n).toNat : Int) = rmR p n by omega, show (n - rmR p n).toNat = n.toNat - (p.2 - p.1 + 1).toNat by
      by_cases c : rmR p n < p.2 - p.1 + 1
      · have e := h.2.2.2 c
        omega
      · omega]
theorem pos_brR : ∀ (R : List Rg) (b n : Int), PosB (brR R b n)
  | [], _, _ => fun x h => by cases h
  | p :: t, b, n => by
    intro x hx
    rcases List.mem_append.mp (show x ∈ brP p b n ++ brR t (b + rmR p n) (n - rmR p n) from hx) with z | z
    · by_cases c : 0 < rmR p n
      · rw [show brP p b n = [(p.1, b, rmR p n)] from if_pos c] at z
        rw [List.mem_singleton.mp z]
        exact c
      · rw [show brP p b n = [] from if_neg c] at z
        cases z
    · exact pos_brR t _ _ x z
theorem addB_cases (B : List Blk) (x : Blk) : addB B x = B ++ [x] ∨ ∃ B0 l, B = B0 ++ [l] ∧ l.1 + l.2.2 = x.1 ∧ l.2.1 + l.2.2 = x.2.1 ∧ addB B x = B0 ++ [(l.1, l.2.1, l.2.2 + x.2.2)] := by
  rcases shaped_not (B := B) with e | ⟨B0, l, e⟩
  · subst e
    exact .inl rfl
  · subst e
    by_cases c : l.1 + l.2.2 = x.1 ∧ l.2.1 + l.2.2 = x.2.1
    · refine .inr ⟨B0, l, rfl, c.1, c.2, ?_⟩
      unfold addB
      rw [List.getLast?_concat, List.dropLast_concat]
      exact if_pos c
    · refine .inl ?_
      unfold addB
      rw [List.getLast?_concat]
      exact if_neg c
theorem fl_add {B : List Blk} {x : Blk} (h : PosB B) (hx : 0 < x.2.2) : flB (addB B x) = flB B ++ flX x ∧ PosB (addB B x) := by
  rcases addB_cases B x with e | ⟨B0, l, e0, c1, c2, e⟩
  · rw [e, flB_app, flB_one]
    refine ⟨rfl, fun y hy => ?_⟩
    rcases List.mem_append.mp hy with z | z
    · exact h y z
    · rw [List.mem_singleton.mp z]
      exact hx
  · subst e0
    have hl : 0 < l.2.2 := h l (List.mem_append.mpr (.inr (List.mem_singleton.mpr rfl)))
    rw [e]
    refine ⟨?_, fun y hy => ?_⟩
    · rw [flB_app, flB_app, flB_one, flB_one, List.append_assoc]
      congr 1
      show zpL (posL l.1 (l.2.2 + x.2.2).toNat) l.2.1 = zpL (posL l.1 l.2.2.toNat) l.2.1 ++ zpL (posL x.1 x.2.2.toNat) x.2.1
      rw [show (l.2.2 + x.2.2).toNat = l.2.2.toNat + x.2.2.toNat by omega, posL_app, zpL_app, posL_len, show ((l.2.2.toNat : Nat) : Int) = l.2.2 by omega, c1, c2]
    · rcases List.mem_append.mp hy with z | z
      · exact h y (List.mem_append.mpr (.inl z))
      · rw [List.mem_singleton.mp z]
        show 0 < l.2.2 + x.2.2
        omega
theorem fl_adds : ∀ (xs B : List Blk), PosB B → PosB xs → flB (addsB B xs) = flB B ++ flB xs ∧ PosB (addsB B xs)
  | [], B, h, _ => by
    refine ⟨?_, h⟩
    show flB B = flB B ++ []
    rw [List.append_nil]
  | x :: t, B, h, hx => by
    obtain ⟨a1, a2⟩ := fl_add (x := x) h (hx x (List.mem_cons_self ..))
    obtain ⟨b1, b2⟩ := fl_adds t (addB B x) a2 fun y hy => hx y (List.mem_cons_of_mem _ hy)
    refine ⟨?_, b2⟩
    show flB (addsB (addB B x) t) = flB B ++ (flX x ++ flB t)
    rw [b1, a1, List.append_assoc]
/-! ### the pairs of a run -/
theorem psR_app : ∀ (l m : List Str) (ws : List Run) (n : Nat), psR ws n (l ++ m) = psR ws n l ++ psR (plA ws n l) (n + l.length) m
  | [], m, ws, n => rfl
  | k :: t, m, ws, n => by
    show plP ws k n ++ psR (plS ws k n) (n + 1) (t ++ m) = (plP ws k n ++ psR (plS ws k n) (n + 1) t) ++ psR (plA (plS ws k n) (n + 1) t) (n + (k :: t).length) m
    rw [psR_app t m, List.length_cons, List.append_assoc, show n + 1 + t.length = n + (t.length + 1) by omega]
theorem ps_same : ∀ (c : Nat) (ws : List Run) (n : Nat) (k : Str), (∀ r ∈ ws, r.1 = k) → psR ws n (List.replicate c k) = []
  | 0, _, _, _, _ => rfl
  | c + 1, ws, n, k, h => by
    have e : plS ws k n = ws ++ [(k, (n : Int))] ∧ plP ws k n = [] := by
      cases ws with
      | nil => exact ⟨rfl, rfl⟩
      | cons r t => exact ⟨if_pos (h r (List.mem_cons_self ..)), if_pos (h r (List.mem_cons_self ..))⟩
    show plP ws k n ++ psR (plS ws k n) (n + 1) (List.replicate c k) = []
    rw [e.1, e.2, ps_same c _ (n + 1) k (fun r hr => by
      rcases List.mem_append.mp hr with z | z
      · exact h r z
      · rw [List.mem_singleton.mp z])]
    rfl
theorem ps_other : ∀ (c : Nat) (ws : List Run) (n : Nat) (k : Str), (∀ r ∈ ws, r.1 ≠ k) → psR ws n (List.replicate c k) = zpL ((psW ws).take c) (n : Int)
  | 0, ws, n, k, _ => rfl
  | c + 1, [], n, k, _ => by
    rw [ps_same (c + 1) [] n k (fun r h => by cases h)]
    rfl
  | c + 1, r :: t, n, k, h => by
    have hr := h r (List.mem_cons_self ..)
    have e1 : plS (r :: t) k n = t := if_neg hr
    have e2 : plP (r :: t) k n = [(r.2, (n : Int))] := if_neg hr
    show plP (r :: t) k n ++ psR (plS (r :: t) k n) (n + 1) (List.replicate c k) = (r.2, (n : Int)) :: zpL ((psW t).take c) ((n : Int) + 1)
    rw [e1, e2, ps_other c t (n + 1) k fun x hx => h x (List.mem_cons_of_mem _ hx)]
    rfl
theorem pairs_run {ws : List Run} {R : List Rg} {n : Nat} {r : Run} {b : Int} (u : Uni ws) (fl : flR R = psW ws) (g : Gd R b) (c1 : 1 ≤ r.2) : flB (brR R (n : Int) (leavR (toldR ws) r.1 r.2)) = psR ws n (List.replicate r.2.toNat r.1) := by
  cases ws with
  | nil =>
    rw [ps_same _ [] n r.1 (fun r h => by cases h), fl_br g (by show (0 : Int) ≤ 0; omega)]
    rfl
  | cons y t =>
    by_cases e : y.1 = r.1
    · have all : ∀ x ∈ y :: t, x.1 = r.1 := fun x hx => (u x hx y (List.mem_cons_self ..)).trans e
      have lv : leavR (toldR (y :: t)) r.1 r.2 = 0 := if_pos e
      rw [lv, ps_same _ _ n r.1 all, fl_br g (Int.le_refl _)]
      rfl
    · have all : ∀ x ∈ y :: t, x.1 ≠ r.1 := fun x hx z => e ((u y (List.mem_cons_self ..) x hx).trans z)
      have lv : leavR (toldR (y :: t)) r.1 r.2 = if r.2 < ((y :: t).length : Int) then r.2 else ((y :: t).length : Int) := if_neg e
      have lp : (psW (y :: t)).length = (y :: t).length := List.length_map _
      rw [ps_other _ _ n r.1 all, lv]
      by_cases q : r.2 < ((y :: t).length : Int)
      · rw [if_pos q, fl_br g (by omega), fl]
      · rw [if_neg q, fl_br g (by omega), fl, List.take_of_length_le (by omega), List.take_of_length_le (by omega)]
theorem all_pairs : ∀ (rs : List Run) (ws : List Run) (R : List Rg) (n : Nat) (B : List Blk), Uni ws → flR R = psW ws → Gd R (n : Int) → (∀ r ∈ rs, 1 ≤ r.2) → Alt rs → (∀ l, R.getLast? = some l → l.2 = (n : Int) - 1 → ∀ x r, toldR ws = some x → rs.head? = some r → x.1 ≠ r.1) → PosB B →
    flB (boR rs (toldR ws) (n : Int) R B) = flB B ++ psR ws n (itR rs) ∧ PosB (boR rs (toldR ws) (n : Int) R B)
  | [], ws, R, n, B, _, _, _, _, _, _, hB => by
    refine ⟨?_, hB⟩
    show flB B = flB B ++ []
    rw [List.append_nil]
  | r :: t, ws, R, n, B, u, fl, g, k, alt, bd, hB => by
    have c1 := k r (List.mem_cons_self ..)
    obtain ⟨h1, h2, h3⟩ := one_run (r := r) u fl g c1 fun l hl hz x hx => bd l hl hz x r hx rfl
    obtain ⟨a1, a2⟩ := fl_adds (brR R (n : Int) (leavR (toldR ws) r.1 r.2)) B hB (pos_brR _ _ _)
    rw [pairs_run u fl g c1] at a1
    have e : itR (r :: t) = List.replicate r.2.toNat r.1 ++ itR t := rfl
    have cn : ((n + r.2.toNat : Nat) : Int) = (n : Int) + r.2 := by omega
    have told' : toldR (plA ws n (List.replicate r.2.toNat r.1)) = stepR (toldR ws) r.1 r.2 := by
      have nn : PosO (toldR ws) := by
        intro x hx
        cases ws with
        | nil => cases hx
        | cons y t =>
          cases hx
          show 1 ≤ (((y :: t).length : Nat) : Int)
          rw [List.length_cons]
          omega
      obtain ⟨c, hc⟩ : ∃ c : Nat, r.2.toNat = c + 1 := ⟨r.2.toNat - 1, by omega⟩
      rw [told_plA _ _ _ u, hc, it_step c _ _ nn, show (c : Int) + 1 = r.2 by omega]
    have ih := all_pairs t (plA ws n (List.replicate r.2.toNat r.1)) _ (n + r.2.toNat) _ (uni_plA _ _ _ u) h1 (by rw [cn]; exact h2) (fun x hx => k x (List.mem_cons_of_mem _ hx)) (fun i x y hx hy => alt (i + 1) x y hx hy) (fun l hl hz x r' hx hr' => by
      have ex := h3 l hl (by omega) x hx
      rw [ex]
      refine alt 0 r r' rfl ?_
      cases t with
      | nil => cases hr'
      | cons y s => exact hr') a2
    rw [cn, told', a1] at ih
    rw [e, psR_app, List.length_replicate, ← List.append_assoc]
    exact ih
theorem whole_pairs {rs : List Run} (k : ∀ r ∈ rs, 1 ≤ r.2) (a : Alt rs) : flB (blR rs) = psR [] 0 (itR rs) ∧ PosB (blR rs) := by
  obtain ⟨h1, h2⟩ := all_pairs rs [] [] 0 [] (fun x hx => by cases hx) rfl trivial k a (fun l hl => by cases hl) (fun x hx => by cases hx)
  exact ⟨h1, h2⟩
/-! ### every position once -/
theorem ps_perm : ∀ (ks : List Str) (ws : List Run) (n : Nat), ((psR ws n ks).map (·.1) ++ ((psR ws n ks).map (·.2) ++ psW (plA ws n ks))).Perm (psW ws ++ posL (n : Int) ks.length)
  | [], ws, n => by
    show (([] : List Int) ++ ([] ++ psW ws)).Perm (psW ws ++ [])
    rw [List.append_nil]
    exact .refl _
  | k :: t, ws, n => by
    have ih := ps_perm t (plS ws k n) (n + 1)
    have eL : posL (n : Int) (k :: t).length = (n : Int) :: posL ((n + 1 : Nat) : Int) t.length := rfl
    rw [eL]
    cases ws with
    | nil => exact ih
    | cons r u =>
      by_cases e : r.1 = k
      · have e1 : plS (r :: u) k n = (r :: u) ++ [(k, (n : Int))] := if_pos e
        have e2 : psR (r :: u) n (k :: t) = psR (plS (r :: u) k n) (n + 1) t := by
          show plP (r :: u) k n ++ _ = _
          rw [show plP (r :: u) k n = [] from if_pos e]
          rfl
        rw [e2]
        show (_ ++ (_ ++ psW (plA (plS (r :: u) k n) (n + 1) t))).Perm _
        have e3 : psW (plS (r :: u) k n) ++ posL ((n + 1 : Nat) : Int) t.length = psW (r :: u) ++ (n : Int) :: posL ((n + 1 : Nat) : Int) t.length := by
          rw [e1]
          unfold psW
          rw [List.map_append, List.append_assoc]
          rfl
        rw [← e3]
        exact ih
      · have e1 : plS (r :: u) k n = u := if_neg e
        have e2 : psR (r :: u) n (k :: t) = (r.2, (n : Int)) :: psR (plS (r :: u) k n) (n + 1) t := by
          show plP (r :: u) k n ++ _ = _
          rw [show plP (r :: u) k n = [(r.2, (n : Int))] from if_neg e]
          rfl
        rw [e2]
        show (_ ++ (_ ++ psW (plA (plS (r :: u) k n) (n + 1) t))).Perm _
        rw [e1] at ih ⊢
        rw [List.map_cons, List.map_cons]
        show (r.2 :: ((psR u (n + 1) t).map (·.1) ++ ((n : Int) :: ((psR u (n + 1) t).map (·.2) ++ psW (plA u (n + 1) t))))).Perm (r.2 :: (psW u ++ (n : Int) :: posL ((n + 1 : Nat) : Int) t.length))
        exact .cons _ (List.perm_middle.trans ((List.Perm.cons _ ih).trans List.perm_middle.symm))
theorem posL_ge : ∀ (n : Nat) (a : Int), ∀ x ∈ posL a n, a ≤ x ∧ x < a + (n : Int)
  | 0, _, x, h => by cases h
  | n + 1, a, x, h => by
    rcases List.mem_cons.mp (show x ∈ a :: posL (a + 1) n from h) with z | z
    · omega
    · have := posL_ge n (a + 1) x z
      omega
theorem posL_nodup : ∀ (n : Nat) (a : Int), (posL a n).Nodup
  | 0, _ => List.nodup_nil
  | n + 1, a => by
    refine List.nodup_cons.mpr ⟨fun h => ?_, posL_nodup n (a + 1)⟩
    have := posL_ge n (a + 1) a h
    omega
theorem ps_nodup (ks : List Str) : ((psR [] 0 ks).map (·.1) ++ ((psR [] 0 ks).map (·.2) ++ psW (plA [] 0 ks))).Nodup := by
  have h := ps_perm ks [] 0
  exact h.symm.nodup (posL_nodup _ _)
theorem ps_count (ks : List Str) : 2 * (psR [] 0 ks).length + (plA [] 0 ks).length = ks.length := by
  have h := (ps_perm ks [] 0).length_eq
  rw [List.length_append, List.length_append, List.length_map, List.length_map, List.length_append, posL_len] at h
  have e : (psW (plA [] 0 ks)).length = (plA [] 0 ks).length := List.length_map _
  have e2 : (psW ([] : List Run)).length = 0 := rfl
  omega
theorem ps_snd : ∀ (ks : List Str) (ws : List Run) (n : Nat), ∀ p ∈ psR ws n ks, (n : Int) ≤ p.2 ∧ p.2 < (n : Int) + (ks.length : Int)
  | [], _, _, p, h => by cases h
  | k :: t, ws, n, p, h => by
    rw [List.length_cons]
    rcases List.mem_append.mp (show p ∈ plP ws k n ++ psR (plS ws k n) (n + 1) t from h) with z | z
    · have e : p.2 = (n : Int) := by
        cases ws with
        | nil => cases z
        | cons r u =>
          have z : p ∈ (if r.1 = k then [] else [(r.2, (n : Int))]) := z
          by_cases c : r.1 = k
          · rw [if_pos c] at z
            cases z
          · rw [if_neg c] at z
            rw [List.mem_singleton.mp z]
      omega
    · have := ps_snd t _ (n + 1) p z
      omega
theorem ps_filter (ks : List Str) (m : Nat) (h : m ≤ ks.length) : (psR [] 0 ks).filter (fun p => decide (p.2 < (m : Int))) = psR [] 0 (ks.take m) := by
  have e : psR [] 0 ks = psR [] 0 (ks.take m) ++ psR (plA [] 0 (ks.take m)) m (ks.drop m) := by
    have := psR_app (ks.take m) (ks.drop m) [] 0
    rw [List.take_append_drop, List.length_take, Nat.zero_add, Nat.min_eq_left h] at this
    exact this
  rw [e, List.filter_append]
  have f1 : (psR [] 0 (ks.take m)).filter (fun p => decide (p.2 < (m : Int))) = psR [] 0 (ks.take m) := by
    refine List.filter_eq_self.mpr fun p hp => decide_eq_true ?_
    have := ps_snd _ _ _ p hp
    rw [List.length_take] at this
    omega
  have f2 : (psR (plA [] 0 (ks.take m)) m (ks.drop m)).filter (fun p => decide (p.2 < (m : Int))) = [] := by
    refine List.filter_eq_nil_iff.mpr fun p hp z => ?_
    have := ps_snd _ _ _ p hp
    have := of_decide_eq_true z
    omega
  rw [f1, f2, List.append_nil]
theorem map_inj {α β : Type} {f : α → β} : ∀ {l : List α}, (l.map f).Nodup → ∀ {a b : α}, a ∈ l → b ∈ l → f a = f b → a = b
  | x :: t, h, a, b, ha, hb, e => by
    have h := List.nodup_cons.mp (show (f x :: t.map f).Nodup from h)
    rcases List.mem_cons.mp ha with h1 | h1
    · rcases List.mem_cons.mp hb with h2 | h2
      · rw [h1, h2]
      · exact absurd (List.mem_map.mpr ⟨b, h2, by rw [← e, h1]⟩) h.1
    · rcases List.mem_cons.mp hb with h2 | h2
      · exact absurd (List.mem_map.mpr ⟨a, h1, by rw [e, h2]⟩) h.1
      · exact map_inj h.2 h1 h2 e
/-- each position stands in one pair at most -/
structure U (P : List Pr) : Prop where
  fst : ∀ p ∈ P, ∀ q ∈ P, p.1 = q.1 → p = q
  snd : ∀ p ∈ P, ∀ q ∈ P, p.2 = q.2 → p = q
  dis : ∀ p ∈ P, ∀ q ∈ P, p.1 ≠ q.2
theorem u_ps (ks : List Str) : U (psR [] 0 ks) := by
  have h := ps_nodup ks
  obtain ⟨h1, h2, h3⟩ := List.nodup_append.mp h
  obtain ⟨h4, _, _⟩ := List.nodup_append.mp h2
  refine ⟨fun p hp q hq e => map_inj h1 hp hq e, fun p hp q hq e => map_inj h4 hp hq e, fun p hp q hq e => ?_⟩
  exact h3 _ (List.mem_map.mpr ⟨p, hp, rfl⟩) _ (List.mem_append.mpr (.inl (List.mem_map.mpr ⟨q, hq, rfl⟩))) e
theorem mem_zp : ∀ (n : Nat) (a b : Int) (p : Pr), p ∈ zpL (posL a n) b ↔ a ≤ p.1 ∧ p.1 < a + (n : Int) ∧ p.2 = b + p.1 - a
  | 0, a, b, p => by
    constructor
    · intro h
      cases h
    · intro h
      omega
  | n + 1, a, b, p => by
    have ih := mem_zp n (a + 1) (b + 1) p
    show p ∈ (a, b) :: zpL (posL (a + 1) n) (b + 1) ↔ _
    rw [List.mem_cons, ih]
    constructor
    · rintro (h | h)
      · rw [h]
        show a ≤ a ∧ a < a + ((n + 1 : Nat) : Int) ∧ b = b + a - a
        omega
      · omega
    · intro h
      by_cases c : p.1 = a
      · exact .inl (Prod.ext c (by show p.2 = b; omega))
      · exact .inr (by omega)
theorem mem_fl {x : Blk} (h : 0 < x.2.2) (p : Pr) : p ∈ flX x ↔ x.1 ≤ p.1 ∧ p.1 < x.1 + x.2.2 ∧ p.2 = x.2.1 + p.1 - x.1 := by
  unfold flX
  rw [mem_zp, show ((x.2.2.toNat : Nat) : Int) = x.2.2 by omega]
theorem pg_first : ∀ (B : List Blk) (p : Pr), PosB B → U (flB B) → p ∈ flB B → pgR B p.1 = some p.2
  | [], p, _, _, h => by cases h
  | x :: t, p, hB, u, h => by
    have hx := hB x (List.mem_cons_self ..)
    have mx := mem_fl hx
    show (if x.1 ≤ p.1 ∧ p.1 < x.1 + x.2.2 then some (x.2.1 + p.1 - x.1) else if x.2.1 ≤ p.1 ∧ p.1 < x.2.1 + x.2.2 then some (x.1 + p.1 - x.2.1) else pgR t p.1) = _
    by_cases c1 : x.1 ≤ p.1 ∧ p.1 < x.1 + x.2.2
    · rw [if_pos c1]
      have m : ((p.1, x.2.1 + p.1 - x.1) : Pr) ∈ flB (x :: t) := List.mem_append.mpr (.inl ((mx _).mpr ⟨c1.1, c1.2, rfl⟩))
      rw [← u.fst _ m _ h rfl]
    · rw [if_neg c1]
      by_cases c2 : x.2.1 ≤ p.1 ∧ p.1 < x.2.1 + x.2.2
      · have m : ((x.1 + p.1 - x.2.1, p.1) : Pr) ∈ flB (x :: t) := List.mem_append.mpr (.inl ((mx _).mpr ⟨by show x.1 ≤ x.1 + p.1 - x.2.1; omega, by show x.1 + p.1 - x.2.1 < _; omega, by show p.1 = x.2.1 + (x.1 + p.1 - x.2.1) - x.1; omega⟩))
        exact absurd rfl (u.dis _ h _ m)
      · rw [if_neg c2]
        rcases List.mem_append.mp (show p ∈ flX x ++ flB t from h) with z | z
        · have := (mx p).mp z
          exact absurd ⟨this.1, this.2.1⟩ c1
        · exact pg_first t p (fun y hy => hB y (List.mem_cons_of_mem _ hy)) ⟨fun a ha b hb => u.fst a (List.mem_append.mpr (.inr ha)) b (List.mem_append.mpr (.inr hb)), fun a ha b hb => u.snd a (List.mem_append.mpr (.inr ha)) b (List.mem_append.mpr (.inr hb)), fun a ha b hb => u.dis a (List.mem_append.mpr (.inr ha)) b (List.mem_append.mpr (.inr hb))⟩ z
theorem pg_second : ∀ (B : List Blk) (p : Pr), PosB B → U (flB B) → p ∈ flB B → pgR B p.2 = some p.1
  | [], p, _, _, h => by cases h
  | x :: t, p, hB, u, h => by
    have hx := hB x (List.mem_cons_self ..)
    have mx := mem_fl hx
    show (if x.1 ≤ p.2 ∧ p.2 < x.1 + x.2.2 then some (x.2.1 + p.2 - x.1) else if x.2.1 ≤ p.2 ∧ p.2 < x.2.1 + x.2.2 then some (x.1 + p.2 - x.2.1) else pgR t p.2) = _
    by_cases c1 : x.1 ≤ p.2 ∧ p.2 < x.1 + x.2.2
    · have m : ((p.2, x.2.1 + p.2 - x.1) : Pr) ∈ flB (x :: t) := List.mem_append.mpr (.inl ((mx _).mpr ⟨c1.1, c1.2, rfl⟩))
      exact absurd rfl (u.dis _ m _ h)
    · rw [if_neg c1]
      by_cases c2 : x.2.1 ≤ p.2 ∧ p.2 < x.2.1 + x.2.2
      · have m : ((x.1 + p.2 - x.2.1, p.2) : Pr) ∈ flB (x :: t) := List.mem_append.mpr (.inl ((mx _).mpr ⟨by show x.1 ≤ x.1 + p.2 - x.2.1; omega, by show x.1 + p.2 - x.2.1 < _; omega, by show p.2 = x.2.1 + (x.1 + p.2 - x.2.1) - x.1; omega⟩))
        rw [if_pos c2, ← u.snd _ m _ h rfl]
      · rw [if_neg c2]
        rcases List.mem_append.mp (show p ∈ flX x ++ flB t from h) with z | z
        · have := (mx p).mp z
          exact absurd ⟨by omega, by omega⟩ c2
        · exact pg_second t p (fun y hy => hB y (List.mem_cons_of_mem _ hy)) ⟨fun a ha b hb => u.fst a (List.mem_append.mpr (.inr ha)) b (List.mem_append.mpr (.inr hb)), fun a ha b hb => u.snd a (List.mem_append.mpr (.inr ha)) b (List.mem_append.mpr (.inr hb)), fun a ha b hb => u.dis a (List.mem_append.mpr (.inr ha)) b (List.mem_append.mpr (.inr hb))⟩ z
theorem pg_none : ∀ (B : List Blk) (m : Int), PosB B → (∀ p ∈ flB B, p.1 ≠ m ∧ p.2 ≠ m) → pgR B m = none
  | [], _, _, _ => rfl
  | x :: t, m, hB, h => by
    have hx := hB x (List.mem_cons_self ..)
    have mx := mem_fl hx
    show (if x.1 ≤ m ∧ m < x.1 + x.2.2 then some (x.2.1 + m - x.1) else if x.2.1 ≤ m ∧ m < x.2.1 + x.2.2 then some (x.1 + m - x.2.1) else pgR t m) = _
    by_cases c1 : x.1 ≤ m ∧ m < x.1 + x.2.2
    · have := h ((m, x.2.1 + m - x.1) : Pr) (List.mem_append.mpr (.inl ((mx _).mpr ⟨c1.1, c1.2, rfl⟩)))
      exact absurd rfl this.1
    · rw [if_neg c1]
      by_cases c2 : x.2.1 ≤ m ∧ m < x.2.1 + x.2.2
      · have := h ((x.1 + m - x.2.1, m) : Pr) (List.mem_append.mpr (.inl ((mx _).mpr ⟨by show x.1 ≤ x.1 + m - x.2.1; omega, by show x.1 + m - x.2.1 < _; omega, by show m = x.2.1 + (x.1 + m - x.2.1) - x.1; omega⟩)))
        exact absurd rfl this.2
      · rw [if_neg c2]
        exact pg_none t m (fun y hy => hB y (List.mem_cons_of_mem _ hy)) fun p hp => h p (List.mem_append.mpr (.inr hp))
end UP

set_option Elab.async false
set_option linter.all false
set_option maxRecDepth 100000
set_option maxHeartbeats 4000000
namespace UP
open PySem PySem.Spec PyProof.Rows L2
/-! ### dicts of pairs -/
theorem merge_hit {k : Key} {v : V} : ∀ (kvs acc : List (Key × V)), (∀ kv ∈ kvs, kv.1 = k → kv.2 = v) → (valV acc k = some v ∨ ∃ kv ∈ kvs, kv.1 = k) → valV (mergeK acc kvs) k = some v
  | [], acc, _, h => by
    rcases h with h | ⟨_, h, _⟩
    · exact h
    · cases h
  | x :: t, acc, hv, h => by
    show valV (mergeK (putK acc x.1 x.2) t) k = some v
    refine merge_hit t _ (fun kv hkv => hv kv (List.mem_cons_of_mem _ hkv)) ?_
    rw [valV_put]
    by_cases e : k = x.1
    · rw [if_pos e]
      exact .inl (by rw [hv x (List.mem_cons_self ..) e.symm])
    · rw [if_neg e]
      rcases h with h | ⟨kv, h, ek⟩
      · exact .inl h
      · rcases List.mem_cons.mp h with z | z
        · rw [z] at ek
          exact absurd ek.symm e
        · exact .inr ⟨kv, z, ek⟩
theorem merge_miss {k : Key} : ∀ (kvs acc : List (Key × V)), (∀ kv ∈ kvs, kv.1 ≠ k) → valV (mergeK acc kvs) k = valV acc k
  | [], acc, _ => rfl
  | x :: t, acc, hv => by
    show valV (mergeK (putK acc x.1 x.2) t) k = _
    rw [merge_miss t _ fun kv hkv => hv kv (List.mem_cons_of_mem _ hkv), valV_put, if_neg fun z => hv x (List.mem_cons_self ..) z.symm]
def kvP (P : List Pr) : List (Key × V) := P.map (fun p => (Sum.inl p.1, V.int p.2)) ++ P.map (fun p => (Sum.inl p.2, V.int p.1))
theorem mem_kvP {P : List Pr} {kv : Key × V} (h : kv ∈ kvP P) : ∃ p ∈ P, kv = (Sum.inl p.1, V.int p.2) ∨ kv = (Sum.inl p.2, V.int p.1) := by
  rcases List.mem_append.mp h with z | z
  · obtain ⟨p, hp, e⟩ := List.mem_map.mp z
    exact ⟨p, hp, .inl e.symm⟩
  · obtain ⟨p, hp, e⟩ := List.mem_map.mp z
    exact ⟨p, hp, .inr e.symm⟩
theorem inlI {a b : Int} (h : (Sum.inl a : Key) = Sum.inl b) : a = b := Sum.inl.inj h
/-- what the dict of the pairs says of a position -/
theorem dict_pairs {B : List Blk} {P : List Pr} (m : Int) (hB : PosB B) (e : flB B = P) (u : U P) : (valV (mergeK [] (kvP P)) (Sum.inl m)).getD .non = oI (pgR B m) := by
  subst e
  by_cases h1 : ∃ p ∈ flB B, p.1 = m
  · obtain ⟨p, hp, em⟩ := h1
    rw [← em, pg_first B p hB u hp, merge_hit (v := .int p.2) (kvP (flB B)) [] (fun kv hkv ek => ?_) (.inr ⟨(Sum.inl p.1, V.int p.2), List.mem_append.mpr (.inl (List.mem_map.mpr ⟨p, hp, rfl⟩)), rfl⟩)]
    · rfl
    · obtain ⟨q, hq, z | z⟩ := mem_kvP hkv
      · rw [z] at ek
        rw [z, u.fst q hq p hp (inlI ek)]
      · rw [z] at ek
        exact absurd (inlI ek).symm (u.dis p hp q hq)
  · by_cases h2 : ∃ p ∈ flB B, p.2 = m
    · obtain ⟨p, hp, em⟩ := h2
      rw [← em, pg_second B p hB u hp, merge_hit (v := .int p.1) (kvP (flB B)) [] (fun kv hkv ek => ?_) (.inr ⟨(Sum.inl p.2, V.int p.1), List.mem_append.mpr (.inr (List.mem_map.mpr ⟨p, hp, rfl⟩)), rfl⟩)]
      · rfl
      · obtain ⟨q, hq, z | z⟩ := mem_kvP hkv
        · rw [z] at ek
          exact absurd (inlI ek) (u.dis q hq p hp)
        · rw [z] at ek
          rw [z, u.snd q hq p hp (inlI ek)]
    · have no : ∀ p ∈ flB B, p.1 ≠ m ∧ p.2 ≠ m := fun p hp => ⟨fun z => h1 ⟨p, hp, z⟩, fun z => h2 ⟨p, hp, z⟩⟩
      rw [pg_none B m hB no, merge_miss (kvP (flB B)) [] fun kv hkv ek => ?_]
      · rfl
      · obtain ⟨q, hq, z | z⟩ := mem_kvP hkv
        · rw [z] at ek
          exact (no q hq).1 (inlI ek)
        · rw [z] at ek
          exact (no q hq).2 (inlI ek)
/-! ### the number of pairs -/
def pcR (rs : List Run) (m : Int) : Int := (m - numR (stR (cutR 0 m 0 rs) none)) / 2
theorem pos_none : PosO none := fun r h => by cases h
theorem pc_at {rs : List Run} {m : Nat} (k : ∀ r ∈ rs, 1 ≤ r.2) (h : m ≤ (itR rs).length) : pcR rs (m : Int) = ((psR [] 0 ((itR rs).take m)).length : Int) := by
  have e1 := at_moment (m := m) pos_none k
  have e2 := ps_count ((itR rs).take m)
  rw [List.length_take, Nat.min_eq_left h] at e2
  unfold pcR
  rw [e1, told_len]
  show ((m : Int) - ((plA [] 0 ((itR rs).take m)).length : Int)) / 2 = _
  omega
theorem dt_int {H : Hp} {n : Nat} {i : Int} : Dt H n (.int i) (.int i) := by
  cases n with
  | zero => exact .inr (.inr (.inl ⟨_, rfl, rfl⟩))
  | succ m => exact .inl (.inr (.inr (.inl ⟨_, rfl, rfl⟩)))
theorem dt_oI {H : Hp} {n : Nat} (z : Option Int) : ∃ d, Dt H n (oI z) d := by
  cases z with
  | none =>
    cases n with
    | zero => exact ⟨_, .inl ⟨rfl, rfl⟩⟩
    | succ m => exact ⟨_, .inl (.inl ⟨rfl, rfl⟩)⟩
  | some i => exact ⟨_, dt_int⟩
theorem dt_two {H : Hp} {a : Addr} {i j : Int} (h : H a = some (.lst [.int i, .int j])) : Dt H 2 (.ref a) (.list [.int i, .int j]) := .inr (.inl ⟨a, _, _, rfl, h, rfl, .cons dt_int (.cons dt_int .nil), Nat.le_of_ble_eq_true rfl⟩)
section
variable {P : Program} {w : World} {K : PySem.W.Frag} {mg : Str → Option Value} {base : Heap}
end
end UP

set_option Elab.async false
set_option linter.all false
set_option maxRecDepth 100000
set_option maxHeartbeats 4000000
namespace UP
open PySem PySem.Spec PyProof.Rows L2
def cntB (B : List Blk) : Int := (B.map (·.2.2)).sum
theorem cntB_cons (x : Blk) (t : List Blk) : cntB (x :: t) = x.2.2 + cntB t := by
  unfold cntB
  rw [List.map_cons, List.sum_cons]
theorem zpL_len : ∀ (l : List Int) (b : Int), (zpL l b).length = l.length
  | [], _ => rfl
  | _ :: t, b => congrArg Nat.succ (zpL_len t (b + 1))
theorem flX_len (x : Blk) : (flX x).length = x.2.2.toNat := by
  unfold flX
  rw [zpL_len, posL_len]
theorem cnt_fl : ∀ (B : List Blk), PosB B → cntB B = ((flB B).length : Int)
  | [], _ => rfl
  | x :: t, h => by
    have hx := h x (List.mem_cons_self ..)
    rw [cntB_cons, cnt_fl t fun y hy => h y (List.mem_cons_of_mem _ hy)]
    show _ = ((flX x ++ flB t).length : Int)
    rw [List.length_append, flX_len]
    omega
theorem zp_get : ∀ (n : Nat) (a b : Int) (i : Nat), i < n → (zpL (posL a n) b)[i]? = some (a + (i : Int), b + (i : Int))
  | 0, _, _, _, h => by omega
  | n + 1, a, b, 0, _ => by
    show some (a, b) = _
    rw [show a + ((0 : Nat) : Int) = a by omega, show b + ((0 : Nat) : Int) = b by omega]
  | n + 1, a, b, i + 1, h => by
    show (zpL (posL (a + 1) n) (b + 1))[i]? = _
    rw [zp_get n (a + 1) (b + 1) i (by omega), show a + 1 + (i : Int) = a + ((i + 1 : Nat) : Int) by omega, show b + 1 + (i : Int) = b + ((i + 1 : Nat) : Int) by omega]
section
variable {P : Program} {w : World} {K : PySem.W.Frag} {mg : Str → Option Value} {base : Heap}
/-! pairs_in: slots 0:blocks 1:first 2:second 3:count -/
abbrev s_pairs_in : Stmt := topS 28
theorem sc_pairs_in : FnScope ["blocks", "first", "second", "count"] ["blocks"] (defScope s_pairs_in) := ⟨rfl, rfl, rfl, by decide +kernel, rfl, by decide +kernel, by decide +kernel⟩
def sp_pairs_in : Sp := fun vs H Q _ => ∃ (a : Addr) (B : List Blk), vs = [.ref a] ∧ Blks H a B ∧ B.length ≤ 900000 ∧ ∀ H', Same H H' → Q (.int (cntB B)) H'
theorem ok_pairs_in (D : Df K mg "pairs_in" s_pairs_in) (T : Tx mg) : Has P w K mg base 1 "pairs_in" ["blocks"] sp_pairs_in := by
  refine has_of D sc_pairs_in (fun _ _ _ _ _ _ us hl => match us, hl with | [_], _ => rfl) (fun vs H Q E h => ?_) (fun f cdv A outer s H vs Q E hr h => ?_)
  · obtain ⟨v, r, rfl, _⟩ := h
    rfl
  · obtain ⟨a, B, rfl, ⟨xs, hx, hp⟩, l4, q⟩ := h
    have lx : xs.length = B.length := Paired.len hp
    refine ⟨_, (pss_one (ps_ret (pe_callB (cr_sum rfl) (by rfl) T.n_sum (by decide +kernel) (pa_cons (pe_lc (own := [("first", 1), ("second", 2), ("count", 3)]) rfl sc_pairs_in.nd (pi_list (pv 0)) (blkOk_by (N := ["blocks", "first", "second", "count"]) (sc := defScope s_pairs_in) (by decide +kernel)) (fun _ _ _ _ _ => (pg_tupK (K := K) (n := 3) rfl rfl (pgs_cons (pg_name (i := 1) sc_pairs_in.nd rfl (by first | exact Or.inl rfl | exact Or.inr rfl)) (pgs_cons (pg_name (i := 2) sc_pairs_in.nd rfl (by first | exact Or.inl rfl | exact Or.inr rfl)) (pgs_cons (pg_name (i := 3) sc_pairs_in.nd rfl (by first | exact Or.inl rfl | exact Or.inr rfl)) pgs_nil))))) (fun _ _ _ _ _ => pts_nil) (fun _ _ _ _ _ => (pv 3))) pa_nil)))), ?_⟩
    refine ⟨_, rfl, a, rfl, ⟨xs, .of hx⟩, fun L nL => lc_list (K := K) (a := a) (xs := xs) (fun i H' => Same H H' ∧ H' L = some (.lst (((B.map (·.2.2)).take i).map V.int))) ⟨same_upd nL, upd_same⟩ (fun i H' _ p => .of (p.1 _ _ hx)) (fun i x H2 ex p => ?_) (fun H2 p => ?_)⟩
    · obtain ⟨sm, hL⟩ := p
      obtain ⟨r, er, hr1⟩ := Paired.at hp ex
      have hi : i < xs.length := (List.getElem?_eq_some_iff.mp ex).1
      obtain ⟨t, rfl, ht⟩ := BV.same sm hr1
      refine ⟨t, _, rfl, .of ht, rfl, _, _, rfl, _, _, rfl, _, _, rfl, rfl, rfl, yesT ⟨_, rfl, _, hL, ?_, same_grow nL sm, ?_⟩⟩
      · simp only [List.length_map, List.length_take]
        exact small (by omega)
      · rw [upd_same, take_snoc (x := r.2.2) (by rw [List.getElem?_map, er]; rfl), List.map_append]
        rfl
    · refine ⟨L, (B.map (fun r : Blk => r.2.2)), rfl, .of ?_, q H2 p.1⟩
      have := p.2
      rw [List.take_of_length_le (by rw [List.length_map]; omega)] at this
      exact this
end
end UP

set_option Elab.async false
set_option linter.all false
set_option maxRecDepth 100000
set_option maxHeartbeats 4000000
namespace UP
open PySem PySem.Spec PyProof.Rows L2
/-! ### blocks, pair by pair -/
def addU (B : List Blk) (P : List Pr) : List Blk := P.foldl (fun F p => addB F (p.1, p.2, 1)) B
theorem addB_nil (x : Blk) : addB [] x = [x] := rfl
theorem addB_join {B : List Blk} {l x : Blk} (h : l.1 + l.2.2 = x.1 ∧ l.2.1 + l.2.2 = x.2.1) : addB (B ++ [l]) x = B ++ [(l.1, l.2.1, l.2.2 + x.2.2)] := by
  unfold addB
  rw [List.getLast?_concat, List.dropLast_concat]
  exact if_pos h
theorem addB_new {B : List Blk} {l x : Blk} (h : ¬ (l.1 + l.2.2 = x.1 ∧ l.2.1 + l.2.2 = x.2.1)) : addB (B ++ [l]) x = (B ++ [l]) ++ [x] := by
  unfold addB
  rw [List.getLast?_concat]
  exact if_neg h
theorem add_add (B : List Blk) (a b k : Int) : addB (addB B (a, b, 1)) (a + 1, b + 1, k) = addB B (a, b, 1 + k) := by
  rcases shaped_not (B := B) with e | ⟨B0, l, e⟩
  · subst e
    exact addB_join (B := []) (l := (a, b, 1)) ⟨rfl, rfl⟩
  · subst e
    by_cases c : l.1 + l.2.2 = a ∧ l.2.1 + l.2.2 = b
    · rw [addB_join (x := (a, b, 1)) c, addB_join (x := (a, b, 1 + k)) c, addB_join (x := (a + 1, b + 1, k)) ⟨by show l.1 + (l.2.2 + 1) = a + 1; omega, by show l.2.1 + (l.2.2 + 1) = b + 1; omega⟩]
      show B0 ++ [(l.1, l.2.1, l.2.2 + 1 + k)] = B0 ++ [(l.1, l.2.1, l.2.2 + (1 + k))]
      rw [Int.add_assoc]
    · rw [addB_new (x := (a, b, 1)) c, addB_new (x := (a, b, 1 + k)) c]
      exact addB_join (B := B0 ++ [l]) (l := (a, b, 1)) ⟨rfl, rfl⟩
theorem unit_add : ∀ (c : Nat) (a b : Int) (B : List Blk), addU B (zpL (posL a (c + 1)) b) = addB B (a, b, (c : Int) + 1)
  | 0, a, b, B => rfl
  | c + 1, a, b, B => by
    show addU (addB B (a, b, 1)) (zpL (posL (a + 1) (c + 1)) (b + 1)) = _
    rw [unit_add c, add_add, show (1 : Int) + ((c : Int) + 1) = ((c + 1 : Nat) : Int) + 1 by omega]
theorem addU_app (B : List Blk) (P Q : List Pr) : addU B (P ++ Q) = addU (addU B P) Q := List.foldl_append ..
theorem adds_units : ∀ (xs B : List Blk), PosB xs → addsB B xs = addU B (flB xs)
  | [], _, _ => rfl
  | x :: t, B, h => by
    have hx := h x (List.mem_cons_self ..)
    obtain ⟨c, hc⟩ : ∃ c : Nat, x.2.2.toNat = c + 1 := ⟨x.2.2.toNat - 1, by omega⟩
    show addsB (addB B x) t = addU B (flX x ++ flB t)
    rw [addU_app, adds_units t _ fun y hy => h y (List.mem_cons_of_mem _ hy)]
    congr 1
    unfold flX
    rw [hc, unit_add, show (c : Int) + 1 = x.2.2 by omega]
theorem all_units : ∀ (rs : List Run) (ws : List Run) (R : List Rg) (n : Nat) (B : List Blk), Uni ws → flR R = psW ws → Gd R (n : Int) → (∀ r ∈ rs, 1 ≤ r.2) → Alt rs → (∀ l, R.getLast? = some l → l.2 = (n : Int) - 1 → ∀ x r, toldR ws = some x → rs.head? = some r → x.1 ≠ r.1) →
    boR rs (toldR ws) (n : Int) R B = addU B (psR ws n (itR rs))
  | [], ws, R, n, B, _, _, _, _, _, _ => rfl
  | r :: t, ws, R, n, B, u, fl, g, k, alt, bd => by
    have c1 := k r (List.mem_cons_self ..)
    obtain ⟨h1, h2, h3⟩ := one_run (r := r) u fl g c1 fun l hl hz x hx => bd l hl hz x r hx rfl
    have a1 := adds_units (brR R (n : Int) (leavR (toldR ws) r.1 r.2)) B (pos_brR _ _ _)
    rw [pairs_run u fl g c1] at a1
    have e : itR (r :: t) = List.replicate r.2.toNat r.1 ++ itR t := rfl
    have cn : ((n + r.2.toNat : Nat) : Int) = (n : Int) + r.2 := by omega
    have told' : toldR (plA ws n (List.replicate r.2.toNat r.1)) = stepR (toldR ws) r.1 r.2 := by
      have nn : PosO (toldR ws) := by
        intro x hx
        cases ws with
        | nil => cases hx
        | cons y t =>
          cases hx
          show 1 ≤ (((y :: t).length : Nat) : Int)
          rw [List.length_cons]
          omega
      obtain ⟨c, hc⟩ : ∃ c : Nat, r.2.toNat = c + 1 := ⟨r.2.toNat - 1, by omega⟩
      rw [told_plA _ _ _ u, hc, it_step c _ _ nn, show (c : Int) + 1 = r.2 by omega]
    have ih := all_units t (plA ws n (List.replicate r.2.toNat r.1)) _ (n + r.2.toNat) (addsB B (brR R (n : Int) (leavR (toldR ws) r.1 r.2))) (uni_plA _ _ _ u) h1 (by rw [cn]; exact h2) (fun x hx => k x (List.mem_cons_of_mem _ hx)) (fun i x y hx hy => alt (i + 1) x y hx hy) (fun l hl hz x r' hx hr' => by
      have ex := h3 l hl (by omega) x hx
      rw [ex]
      refine alt 0 r r' rfl ?_
      cases t with
      | nil => cases hr'
      | cons y s => exact hr')
    rw [cn, told'] at ih
    rw [e, psR_app, List.length_replicate, addU_app, ← a1]
    exact ih
theorem whole_units {rs : List Run} (k : ∀ r ∈ rs, 1 ≤ r.2) (a : Alt rs) : blR rs = addU [] (psR [] 0 (itR rs)) :=
  all_units rs [] [] 0 [] (fun x hx => by cases hx) rfl trivial k a (fun l hl => by cases hl)
/-! ### all counts multiplied -/
def scX (t : Int) (x : Blk) : Blk := (x.1 * t, x.2.1 * t, x.2.2 * t)
def scB (t : Int) (B : List Blk) : List Blk := B.map (scX t)
theorem eq_sc {a b t : Int} (ht : 0 < t) : a * t = b * t ↔ a = b :=
  ⟨fun z => Int.le_antisymm ((le_sc ht).mp (by omega)) ((le_sc ht).mp (by omega)), fun z => by rw [z]⟩
theorem addB_sc {t : Int} (ht : 0 < t) (B : List Blk) (x : Blk) : addB (scB t B) (scX t x) = scB t (addB B x) := by
  rcases shaped_not (B := B) with e | ⟨B0, l, e⟩
  · subst e
    rfl
  · subst e
    have e1 : scB t (B0 ++ [l]) = scB t B0 ++ [scX t l] := List.map_append ..
    rw [e1]
    have i1 : (scX t l).1 + (scX t l).2.2 = (scX t x).1 ↔ l.1 + l.2.2 = x.1 := by
      show l.1 * t + l.2.2 * t = x.1 * t ↔ _
      rw [← Int.add_mul]
      exact eq_sc ht
    have i2 : (scX t l).2.1 + (scX t l).2.2 = (scX t x).2.1 ↔ l.2.1 + l.2.2 = x.2.1 := by
      show l.2.1 * t + l.2.2 * t = x.2.1 * t ↔ _
      rw [← Int.add_mul]
      exact eq_sc ht
    by_cases c : l.1 + l.2.2 = x.1 ∧ l.2.1 + l.2.2 = x.2.1
    · rw [addB_join c, addB_join ⟨i1.mpr c.1, i2.mpr c.2⟩]
      show _ = List.map (scX t) (B0 ++ [_])
      rw [List.map_append]
      show scB t B0 ++ [(l.1 * t, l.2.1 * t, l.2.2 * t + x.2.2 * t)] = scB t B0 ++ [(l.1 * t, l.2.1 * t, (l.2.2 + x.2.2) * t)]
      rw [Int.add_mul]
    · rw [addB_new c, addB_new fun z => c ⟨i1.mp z.1, i2.mp z.2⟩]
      show _ = List.map (scX t) ((B0 ++ [l]) ++ [x])
      rw [List.map_append, List.map_append]
      rfl
theorem adds_sc {t : Int} (ht : 0 < t) : ∀ (xs B : List Blk), addsB (scB t B) (scB t xs) = scB t (addsB B xs)
  | [], _ => rfl
  | x :: u, B => by
    show addsB (addB (scB t B) (scX t x)) (scB t u) = scB t (addsB (addB B x) u)
    rw [addB_sc ht, adds_sc ht u]
theorem brP_sc {t : Int} (ht : 0 < t) (p : Rg) (b n : Int) : brP (p.1 * t, p.2 * t + t - 1) (b * t) (n * t) = scB t (brP p b n) := by
  unfold brP
  rw [rm_sc ht]
  by_cases c : 0 < rmR p n
  · rw [if_pos c, if_pos ((pos_sc ht).mpr c)]
    rfl
  · rw [if_neg c, if_neg fun z => c ((pos_sc ht).mp z)]
    rfl
theorem brR_sc {t : Int} (ht : 0 < t) : ∀ (R : List Rg) (b n : Int), brR (scP t R) (b * t) (n * t) = scB t (brR R b n)
  | [], _, _ => rfl
  | p :: u, b, n => by
    show brP (p.1 * t, p.2 * t + t - 1) (b * t) (n * t) ++ brR (scP t u) (b * t + rmR (p.1 * t, p.2 * t + t - 1) (n * t)) (n * t - rmR (p.1 * t, p.2 * t + t - 1) (n * t)) = List.map (scX t) (brP p b n ++ brR u (b + rmR p n) (n - rmR p n))
    rw [brP_sc ht, rm_sc ht, ← Int.sub_mul, ← Int.add_mul, brR_sc ht u, List.map_append]
    rfl
theorem boR_sc {t : Int} (ht : 0 < t) : ∀ (rs : List Run) (st : Option Run) (b : Int) (R : List Rg) (B : List Blk), boR (scR t rs) (scO t st) (b * t) (scP t R) (scB t B) = scB t (boR rs st b R B)
  | [], _, _, _, _ => rfl
  | r :: u, st, b, R, B => by
    show boR (scR t u) (stepR (scO t st) r.1 (r.2 * t)) (b * t + r.2 * t) (wfR (scP t R) (leavR (scO t st) r.1 (r.2 * t)) ++ adP (scO t st) (b * t) (r.1, r.2 * t)) (addsB (scB t B) (brR (scP t R) (b * t) (leavR (scO t st) r.1 (r.2 * t)))) = scB t (boR u (stepR st r.1 r.2) (b + r.2) (wfR R (leavR st r.1 r.2) ++ adP st b r) (addsB B (brR R b (leavR st r.1 r.2))))
    rw [step_sc ht, ← Int.add_mul, leav_sc ht, wfR_sc ht, adP_sc ht, brR_sc ht, adds_sc ht]
    have e : scP t (wfR R (leavR st r.1 r.2)) ++ scP t (adP st b r) = scP t (wfR R (leavR st r.1 r.2) ++ adP st b r) := by
      unfold scP
      rw [List.map_append]
    rw [e, boR_sc ht u]
theorem blR_sc {t : Int} (ht : 0 < t) (rs : List Run) : blR (scR t rs) = scB t (blR rs) := by
  have := boR_sc ht rs none 0 [] []
  rw [Int.zero_mul] at this
  exact this
/-- the blocks of multiplied pairs -/
def lbR (t : Int) (P : List Pr) : List Blk := P.foldl (fun F p => addB F (p.1 * t, p.2 * t, t)) []
theorem lbR_snoc (t : Int) (P : List Pr) (p : Pr) : lbR t (P ++ [p]) = addB (lbR t P) (p.1 * t, p.2 * t, t) := by
  unfold lbR
  rw [List.foldl_append]
  rfl
theorem lbR_sc {t : Int} (ht : 0 < t) (P : List Pr) : lbR t P = scB t (addU [] P) := by
  have gen : ∀ (P : List Pr) (F : List Blk), P.foldl (fun F p => addB F (p.1 * t, p.2 * t, t)) (scB t F) = scB t (addU F P) := by
    intro P
    induction P with
    | nil => intro F; rfl
    | cons p u ih =>
      intro F
      have e := addB_sc ht F (p.1, p.2, 1)
      have e2 : scX t (p.1, p.2, 1) = (p.1 * t, p.2 * t, t) := by
        show (p.1 * t, p.2 * t, 1 * t) = _
        rw [Int.one_mul]
      rw [e2] at e
      show u.foldl (fun F p => addB F (p.1 * t, p.2 * t, t)) (addB (scB t F) (p.1 * t, p.2 * t, t)) = scB t (addU (addB F (p.1, p.2, 1)) u)
      rw [e, ih]
  exact gen P []
theorem lbR_len (t : Int) (P : List Pr) : (lbR t P).length ≤ P.length := by
  have gen : ∀ (P : List Pr) (F : List Blk), (P.foldl (fun F p => addB F (p.1 * t, p.2 * t, t)) F).length ≤ F.length + P.length := by
    intro P
    induction P with
    | nil => intro F; exact Nat.le_refl _
    | cons p u ih =>
      intro F
      have h1 := ih (addB F (p.1 * t, p.2 * t, t))
      have h2 := addB_len F (p.1 * t, p.2 * t, t)
      show (u.foldl (fun F p => addB F (p.1 * t, p.2 * t, t)) (addB F (p.1 * t, p.2 * t, t))).length ≤ _
      rw [List.length_cons]
      omega
  have := gen P []
  rw [List.length_nil, Nat.zero_add] at this
  exact this
theorem lbR_pos {t : Int} (ht : 0 < t) (P : List Pr) : PosB (lbR t P) := by
  have gen : ∀ (P : List Pr) (F : List Blk), PosB F → PosB (P.foldl (fun F p => addB F (p.1 * t, p.2 * t, t)) F) := by
    intro P
    induction P with
    | nil => intro F h; exact h
    | cons p u ih =>
      intro F h
      exact ih _ (fl_add (x := (p.1 * t, p.2 * t, t)) h ht).2
  exact gen P [] (fun x h => by cases h)
theorem whole_lb {rs : List Run} {t : Int} (ht : 0 < t) (k : ∀ r ∈ rs, 1 ≤ r.2) (a : Alt rs) : blR (scR t rs) = lbR t (psR [] 0 (itR rs)) := by
  rw [blR_sc ht, whole_units k a, lbR_sc ht]
/-! ### pairs of a multiplied sequence -/
def exP (t : Int) (P : List Pr) : List Pr := P.flatMap fun p => zpL (posL (p.1 * t) t.toNat) (p.2 * t)
theorem exP_cons (t : Int) (p : Pr) (P : List Pr) : exP t (p :: P) = zpL (posL (p.1 * t) t.toNat) (p.2 * t) ++ exP t P := rfl
theorem exP_app (t : Int) (P Q : List Pr) : exP t (P ++ Q) = exP t P ++ exP t Q := List.flatMap_append ..
theorem ex_zp {t : Int} (ht : 0 < t) : ∀ (c : Nat) (a b : Int), exP t (zpL (posL a c) b) = zpL (posL (a * t) (c * t.toNat)) (b * t)
  | 0, a, b => by
    rw [Nat.zero_mul]
    rfl
  | c + 1, a, b => by
    show zpL (posL (a * t) t.toNat) (b * t) ++ exP t (zpL (posL (a + 1) c) (b + 1)) = _
    rw [ex_zp ht c, Nat.succ_mul, Nat.add_comm, posL_app, zpL_app, posL_len, Int.add_mul, Int.add_mul, Int.one_mul, show ((t.toNat : Nat) : Int) = t by omega]
theorem fl_sc {t : Int} (ht : 0 < t) : ∀ (B : List Blk), PosB B → flB (scB t B) = exP t (flB B)
  | [], _ => rfl
  | x :: u, h => by
    have hx := h x (List.mem_cons_self ..)
    show flX (scX t x) ++ flB (scB t u) = exP t (flX x ++ flB u)
    rw [exP_app, fl_sc ht u fun y hy => h y (List.mem_cons_of_mem _ hy)]
    congr 1
    unfold flX
    rw [ex_zp ht]
    show zpL (posL (x.1 * t) (x.2.2 * t).toNat) (x.2.1 * t) = _
    rw [Int.toNat_mul (by omega) (by omega)]
theorem ex_len {t : Int} (P : List Pr) : (exP t P).length = P.length * t.toNat := by
  induction P with
  | nil => rw [List.length_nil, Nat.zero_mul]; rfl
  | cons p u ih => rw [exP_cons, List.length_append, ih, zpL_len, posL_len, List.length_cons, Nat.succ_mul, Nat.add_comm]
theorem ex_get {t : Int} : ∀ (P : List Pr) (i r : Nat) (p : Pr), P[i]? = some p → r < t.toNat → (exP t P)[i * t.toNat + r]? = some (p.1 * t + (r : Int), p.2 * t + (r : Int))
  | [], _, _, _, h, _ => by simp at h
  | x :: u, 0, r, p, h, hr => by
    have e : x = p := Option.some.inj h
    subst e
    rw [Nat.zero_mul, Nat.zero_add, exP_cons, List.getElem?_append_left (by rw [zpL_len, posL_len]; exact hr), zp_get _ _ _ _ hr]
  | x :: u, i + 1, r, p, h, hr => by
    have h : u[i]? = some p := h
    rw [exP_cons, List.getElem?_append_right (by rw [zpL_len, posL_len, Nat.succ_mul]; omega), zpL_len, posL_len, Nat.succ_mul, show i * t.toNat + t.toNat + r - t.toNat = i * t.toNat + r by omega]
    exact ex_get u i r p h hr
theorem ex_mem {t : Int} (ht : 0 < t) {P : List Pr} {q : Pr} (h : q ∈ exP t P) : ∃ p ∈ P, ∃ j : Int, 0 ≤ j ∧ j < t ∧ q = (p.1 * t + j, p.2 * t + j) := by
  obtain ⟨p, hp, hq⟩ := List.mem_flatMap.mp h
  have := (mem_zp _ _ _ q).mp hq
  rw [show ((t.toNat : Nat) : Int) = t by omega] at this
  exact ⟨p, hp, q.1 - p.1 * t, by omega, by omega, Prod.ext (by show q.1 = p.1 * t + (q.1 - p.1 * t); omega) (by show q.2 = p.2 * t + (q.1 - p.1 * t); omega)⟩
theorem same_item {a b j r t : Int} (ht : 0 < t) (j0 : 0 ≤ j) (j1 : j < t) (r0 : 0 ≤ r) (r1 : r < t) (e : a * t + j = b * t + r) : a = b := by
  rcases Int.lt_trichotomy a b with c | c | c
  · have := (le_sc (a := a + 1) (b := b) ht).mpr (by omega)
    rw [Int.add_mul, Int.one_mul] at this
    omega
  · exact c
  · have := (le_sc (a := b + 1) (b := a) ht).mpr (by omega)
    rw [Int.add_mul, Int.one_mul] at this
    omega
theorem ps_sorted : ∀ (ks : List Str) (ws : List Run) (n : Nat), (psR ws n ks).Pairwise fun p q => p.2 < q.2
  | [], _, _ => List.Pairwise.nil
  | k :: t, ws, n => by
    show (plP ws k n ++ psR (plS ws k n) (n + 1) t).Pairwise _
    have ih := ps_sorted t (plS ws k n) (n + 1)
    have bd := ps_snd t (plS ws k n) (n + 1)
    cases ws with
    | nil => exact ih
    | cons r u =>
      by_cases c : r.1 = k
      · rw [show plP (r :: u) k n = [] from if_pos c]
        exact ih
      · rw [show plP (r :: u) k n = [(r.2, (n : Int))] from if_neg c]
        refine List.Pairwise.cons (fun q hq => ?_) ih
        have := bd q hq
        show (n : Int) < q.2
        omega
theorem sorted_at : ∀ {P : List Pr} {k : Nat} {p : Pr}, P.Pairwise (fun p q => p.2 < q.2) → P[k]? = some p → (P.filter fun q => decide (q.2 < p.2)).length = k
  | x :: t, 0, p, h, e => by
    have e : x = p := Option.some.inj e
    subst e
    have h := List.pairwise_cons.mp h
    rw [List.length_eq_zero_iff, List.filter_eq_nil_iff]
    intro q hq z
    have z := of_decide_eq_true z
    rcases List.mem_cons.mp hq with w | w
    · rw [w] at z
      omega
    · have := h.1 q w
      omega
  | x :: t, k + 1, p, h, e => by
    have e : t[k]? = some p := e
    have h := List.pairwise_cons.mp h
    have lt := h.1 p (List.mem_of_getElem? e)
    rw [List.filter_cons, if_pos (decide_eq_true lt), List.length_cons, sorted_at h.2 e]
theorem scR_pos {t : Int} {rs : List Run} (t1 : 1 ≤ t) (k : ∀ r ∈ rs, 1 ≤ r.2) : ∀ r ∈ scR t rs, 1 ≤ r.2 := by
  intro r hr
  obtain ⟨x, hx, rfl⟩ := List.mem_map.mp hr
  have c1 := k x hx
  show 1 ≤ x.2 * t
  have := Int.mul_le_mul c1 t1 (by decide) (by omega)
  omega
theorem scR_alt {t : Int} {rs : List Run} (a : Alt rs) : Alt (scR t rs) := by
  intro i x y hx hy
  unfold scR at hx hy
  rw [List.getElem?_map] at hx hy
  cases e1 : rs[i]? with
  | none => rw [e1] at hx; cases hx
  | some a' =>
    cases e2 : rs[i + 1]? with
    | none => rw [e2] at hy; cases hy
    | some b' =>
      rw [e1] at hx
      rw [e2] at hy
      cases hx
      cases hy
      exact a i a' b' e1 e2
/-- all that is told of a multiplied sequence's pairs -/
structure Mul (t : Int) (rs : List Run) : Prop where
  lb : blR (scR t rs) = lbR t (psR [] 0 (itR rs))
  fl : flB (blR (scR t rs)) = exP t (psR [] 0 (itR rs))
  ps : psR [] 0 (itR (scR t rs)) = exP t (psR [] 0 (itR rs))
  pb : PosB (blR (scR t rs))
theorem mul_of {t : Int} {rs : List Run} (t1 : 1 ≤ t) (k : ∀ r ∈ rs, 1 ≤ r.2) (a : Alt rs) : Mul t rs := by
  have ht : 0 < t := by omega
  obtain ⟨w1, w2⟩ := whole_pairs k a
  obtain ⟨v1, v2⟩ := whole_pairs (scR_pos t1 k) (scR_alt (t := t) a)
  have f : flB (blR (scR t rs)) = exP t (psR [] 0 (itR rs)) := by rw [blR_sc ht, fl_sc ht _ w2, w1]
  exact ⟨whole_lb ht k a, f, by rw [← v1, f], v2⟩
theorem pc_count {rs : List Run} {k : Nat} {p : Pr} (pos : ∀ r ∈ rs, 1 ≤ r.2) (h : (psR [] 0 (itR rs))[k]? = some p) : 0 ≤ p.2 ∧ p.2 < lenR rs ∧ pcR rs p.2 = (k : Int) := by
  have b := ps_snd _ _ _ p (List.mem_of_getElem? h)
  have l := len_it rs pos
  have pm : ((p.2.toNat : Nat) : Int) = p.2 := by omega
  have e1 := pc_at (m := p.2.toNat) pos (by omega)
  rw [pm] at e1
  refine ⟨by omega, by omega, ?_⟩
  rw [e1, ← ps_filter _ _ (by omega), pm, sorted_at (ps_sorted _ _ _) h]
theorem pair_in {rs : List Run} {p : Pr} (pos : ∀ r ∈ rs, 1 ≤ r.2) (h : p ∈ psR [] 0 (itR rs)) : 0 ≤ p.1 ∧ p.1 < lenR rs ∧ 0 ≤ p.2 ∧ p.2 < lenR rs := by
  have l := len_it rs pos
  have pm := ps_perm (itR rs) [] 0
  have b1 := posL_ge _ _ p.1 (pm.mem_iff.mp (List.mem_append.mpr (.inl (List.mem_map.mpr ⟨p, h, rfl⟩))))
  have b2 := posL_ge _ _ p.2 (pm.mem_iff.mp (List.mem_append.mpr (.inr (List.mem_append.mpr (.inl (List.mem_map.mpr ⟨p, h, rfl⟩))))))
  omega
theorem wait_in {rs : List Run} {r : Run} (pos : ∀ r ∈ rs, 1 ≤ r.2) (h : r ∈ plA [] 0 (itR rs)) : 0 ≤ r.2 ∧ r.2 < lenR rs ∧ ∀ p ∈ psR [] 0 (itR rs), p.1 ≠ r.2 ∧ p.2 ≠ r.2 := by
  have l := len_it rs pos
  have pm := ps_perm (itR rs) [] 0
  have hr : r.2 ∈ psW (plA [] 0 (itR rs)) := List.mem_map.mpr ⟨r, h, rfl⟩
  have b1 := posL_ge _ _ r.2 (pm.mem_iff.mp (List.mem_append.mpr (.inr (List.mem_append.mpr (.inr hr)))))
  refine ⟨by omega, by omega, fun p hp => ?_⟩
  obtain ⟨_, h2, h3⟩ := List.nodup_append.mp (ps_nodup (itR rs))
  obtain ⟨_, _, h6⟩ := List.nodup_append.mp h2
  exact ⟨h3 _ (List.mem_map.mpr ⟨p, hp, rfl⟩) _ (List.mem_append.mpr (.inr hr)), h6 _ (List.mem_map.mpr ⟨p, hp, rfl⟩) _ hr⟩
end UP

set_option Elab.async false
set_option linter.all false
set_option maxRecDepth 100000
set_option maxHeartbeats 4000000
namespace UP
open PySem PySem.Spec PyProof.Rows L2
def dB (x : Blk) : PyData := .tuple [.int x.1, .int x.2.1, .int x.2.2]
theorem dp_bv {K : PySem.W.Frag} {H : Hp} {v : V} {r : Blk} (h : BV H v r) : Dp K H v (dB r) := by
  obtain ⟨t, rfl, h⟩ := h
  exact .tup (.of h) (.cons (.int _) (.cons (.int _) (.cons (.int _) .nil)))
theorem dp_bvs {K : PySem.W.Frag} {H : Hp} : ∀ {xs : List V} {rs : List Blk}, Paired (BV H) xs rs → DpAll K H xs (rs.map dB)
  | _, _, .nil => .nil
  | _, _, .cons h t => .cons (dp_bv h) (dp_bvs t)
theorem can_bvs : ∀ (rs : List Blk), PyData.canLayAll0 (rs.map dB) = true
  | [] => by simp [PyData.canLayAll0]
  | r :: t => by
    simp only [List.map_cons, PyData.canLayAll0, can_bvs t]
    simp [dB, PyData.canLay0, PyData.canLayAll0]
theorem depth_bvs : ∀ (rs : List Blk), PyData.depthAll (rs.map dB) ≤ 1
  | [] => by simp [PyData.depthAll]
  | r :: t => by
    simp only [List.map_cons, PyData.depthAll]
    refine Nat.max_le.mpr ⟨?_, depth_bvs t⟩
    simp [dB, PyData.depth, PyData.depthAll]
theorem shaped_bvs (rs : List Blk) : SeqAt.shaped (.list (rs.map dB)) = true := by
  unfold SeqAt.shaped
  rw [PyData.canLay0, can_bvs, PyData.depth]
  have := depth_bvs rs
  exact decide_eq_true (by omega)
theorem eqv_nilB (rs : List Blk) : PyData.eqv (.list (rs.map dB)) (.list []) = rs.isEmpty := by
  cases rs with
  | nil => simp [PyData.eqv, PyData.eqvAll]
  | cons r t => simp [PyData.eqv, PyData.eqvAll]
theorem eqv_two (x y u v : Int) : PyData.eqv (.list [.int x, .int y]) (.list [.int u, .int v]) = (decide (x = u) && decide (y = v)) := by
  simp [PyData.eqv, PyData.eqvAll]
  rfl
theorem shaped_two (x y : Int) : SeqAt.shaped (.list [.int x, .int y]) = true := by
  unfold SeqAt.shaped
  simp [PyData.canLay0, PyData.canLayAll0, PyData.depth, PyData.depthAll]
theorem dt_bvs {H : Hp} : ∀ {xs : List V} {R : List Blk}, Paired (BV H) xs R → Paired (Dt H 1) xs (R.map dB)
  | _, _, .nil => .nil
  | _, _, .cons h t => by
    refine .cons ?_ (dt_bvs t)
    obtain ⟨a, rfl, h⟩ := h
    exact .inr (.inr ⟨a, _, _, rfl, h, rfl, .cons dt_int (.cons dt_int (.cons dt_int .nil)), Nat.le_of_ble_eq_true rfl⟩)
theorem dt_blks {H : Hp} {p : Addr} {R : List Blk} (h : Blks H p R) (l : R.length ≤ 100000) : Dt H 2 (.ref p) (.list (R.map dB)) := by
  obtain ⟨xs, hx, hp⟩ := h
  exact .inr (.inl ⟨p, xs, _, rfl, hx, rfl, dt_bvs hp, by rw [List.length_map]; exact l⟩)
theorem at3a {α : Type} {x y z : α} : atI [x, y, z] 0 = some x := rfl
theorem at3b {α : Type} {x y z : α} : atI [x, y, z] 1 = some y := rfl
theorem at3c {α : Type} {x y z : α} : atI [x, y, z] 2 = some z := rfl
section
variable {P : Program} {w : World} {K : PySem.W.Frag} {mg : Str → Option Value} {base : Heap}
end
end UP

set_option Elab.async false
set_option linter.all false
set_option maxRecDepth 100000
set_option maxHeartbeats 4000000
namespace UP
open PySem PySem.Spec PyProof.Rows L2
/-! ### the longest wait -/
def lwS (l : Option Pr) (x : Blk) : Option Pr := match l with
  | none => some (x.1, x.2.1)
  | some p => if p.2 - p.1 < x.2.1 - x.1 then some (x.1, x.2.1) else some p
def lwR (B : List Blk) : Option Pr := B.foldl lwS none
theorem lwR_snoc (B : List Blk) (x : Blk) : lwR (B ++ [x]) = lwS (lwR B) x := by
  unfold lwR
  rw [List.foldl_append]
  rfl
def OPV (H : Hp) (v : V) : Option Pr → Prop
  | none => v = .non
  | some p => PV H v p
theorem OPV.same {H H' : Hp} {v : V} {p : Option Pr} (s : Same H H') (h : OPV H v p) : OPV H' v p := by
  cases p with
  | none => exact h
  | some p => exact PV.same s h
theorem can_pr : ∀ (rs : List Pr), PyData.canLayAll0 (rs.map fun p => .tuple [.int p.1, .int p.2]) = true
  | [] => by simp [PyData.canLayAll0]
  | r :: t => by
    simp only [List.map_cons, PyData.canLayAll0, can_pr t]
    simp [PyData.canLay0, PyData.canLayAll0]
theorem depth_pr : ∀ (rs : List Pr), PyData.depthAll (rs.map fun p => .tuple [.int p.1, .int p.2]) ≤ 1
  | [] => by simp [PyData.depthAll]
  | r :: t => by
    simp only [List.map_cons, PyData.depthAll]
    refine Nat.max_le.mpr ⟨?_, depth_pr t⟩
    simp [PyData.depth, PyData.depthAll]
def dPr (p : Pr) : PyData := .tuple [.int p.1, .int p.2]
theorem shaped_pr (rs : List Pr) : SeqAt.shaped (.list (rs.map dPr)) = true := by
  unfold SeqAt.shaped
  rw [PyData.canLay0, show PyData.canLayAll0 (rs.map dPr) = true from can_pr rs, PyData.depth]
  have : PyData.depthAll (rs.map dPr) ≤ 1 := depth_pr rs
  exact decide_eq_true (by omega)
theorem dp_pr {K : PySem.W.Frag} {H : Hp} : ∀ {xs : List V} {rs : List Pr}, Paired (PV H) xs rs → DpAll K H xs (rs.map dPr)
  | _, _, .nil => .nil
  | _, _, .cons ⟨t, e, h⟩ r => by
    subst e
    exact .cons (.tup (.of h) (.cons (.int _) (.cons (.int _) .nil))) (dp_pr r)
theorem eqv_pr : ∀ (a b : List Pr), PyData.eqv (.list (a.map dPr)) (.list (b.map dPr)) = decide (a = b) := by
  have gen : ∀ (a b : List Pr), PyData.eqvAll (a.map dPr) (b.map dPr) = decide (a = b) := by
    intro a
    induction a with
    | nil =>
      intro b
      cases b with
      | nil => rfl
      | cons y u => simp [PyData.eqvAll]
    | cons x t ih =>
      intro b
      cases b with
      | nil => simp [PyData.eqvAll]
      | cons y u =>
        rw [List.map_cons, List.map_cons, PyData.eqvAll, ih u]
        have e : PyData.eqv (dPr x) (dPr y) = decide (x = y) := by
          unfold dPr
          rw [PyData.eqv, PyData.eqvAll, PyData.eqvAll, PyData.eqvAll, PyData.eqv, PyData.eqv]
          by_cases c : x = y
          · subst c
            simp
          · have : ¬ (x.1 = y.1 ∧ x.2 = y.2) := fun z => c (Prod.ext z.1 z.2)
            rw [decide_eq_false c]
            by_cases c1 : x.1 = y.1
            · have c2 : ¬ x.2 = y.2 := fun z => this ⟨c1, z⟩
              simp [c1, c2]
            · simp [c1]
        rw [e]
        by_cases c1 : x = y
        · by_cases c2 : t = u
          · rw [decide_eq_true c1, decide_eq_true c2, decide_eq_true (by rw [c1, c2])]
            rfl
          · rw [decide_eq_false c2, decide_eq_false (fun z => c2 (List.cons.inj z).2)]
            cases decide (x = y) <;> rfl
        · rw [decide_eq_false c1, decide_eq_false (fun z => c1 (List.cons.inj z).1)]
          rfl
  intro a b
  rw [PyData.eqv]
  exact gen a b
theorem flB_snoc (B : List Blk) (x : Blk) : flB (B ++ [x]) = flB B ++ flX x := by rw [flB_app, flB_one]
theorem zp_snoc : ∀ (n : Nat) (a b : Int), zpL (posL a (n + 1)) b = zpL (posL a n) b ++ [(a + (n : Int), b + (n : Int))] := by
  intro n a b
  rw [posL_app, zpL_app, posL_len]
  rfl
section
variable {P : Program} {w : World} {K : PySem.W.Frag} {mg : Str → Option Value} {base : Heap}
/-! longest_wait: slots 0:sequence 1:longest 2:first 3:second 4:count -/
abbrev s_longest_wait : Stmt := topS 30
theorem sc_longest_wait : FnScope ["sequence", "longest", "first", "second", "count"] ["sequence"] (defScope s_longest_wait) := ⟨rfl, rfl, rfl, by decide +kernel, rfl, by decide +kernel, by decide +kernel⟩
def sp_longest_wait : Sp := fun vs H Q _ => ∃ (av : V) (rs : List Run), vs = [av] ∧ RunsG H av rs ∧ SeqOk rs ∧ ∀ H' v, Same H H' → OPV H' v (lwR (blR rs)) → Q v H'
theorem ok_longest_wait (D : Df K mg "longest_wait" s_longest_wait) (G_checked_runs : Has P w K mg base 5 "checked_runs" ["sequence"] sp_checked_runs) (G_blocks_of : Has P w K mg base 3 "blocks_of" ["runs"] sp_blocks_of) : Has P w K mg base 6 "longest_wait" ["sequence"] sp_longest_wait := by
  refine has_of D sc_longest_wait (fun _ _ _ _ _ _ us hl => match us, hl with | [_], _ => rfl) (fun vs H Q E h => ?_) (fun f cdv A outer s H vs Q E hr h => ?_)
  · obtain ⟨v, r, rfl, _⟩ := h
    rfl
  · obtain ⟨av, rs, rfl, hR, ok, q⟩ := h
    refine ⟨_, (pss_cons (ps_set (i := 1) sc_longest_wait.nd rfl (by first | exact Or.inl rfl | exact Or.inr rfl) pe_non)
    (pss_cons (ps_for PassesOwn.never rfl (pi_list (pe_callH G_blocks_of (hr.mono (by omega)) (by rfl) (pa_cons (pe_callH G_checked_runs (hr.mono (by omega)) (by rfl) (pa_cons (pv 0) pa_nil)) pa_nil))) (pg_tup rfl (pgs_cons (pg_name (i := 2) sc_longest_wait.nd rfl (by first | exact Or.inl rfl | exact Or.inr rfl)) (pgs_cons (pg_name (i := 3) sc_longest_wait.nd rfl (by first | exact Or.inl rfl | exact Or.inr rfl)) (pgs_cons (pg_name (i := 4) sc_longest_wait.nd rfl (by first | exact Or.inl rfl | exact Or.inr rfl)) pgs_nil))))
      (pss_one (ps_if (PW.pt (pw_or (pt_cmpR op_isN (pv 1) pe_non (nomark _)) (pw_or1 (pt_cmpR op_gt (pe_op op_sub (pv 3) (pv 2)) (pe_op op_sub (pe_ix ix_tup (pv 1) pe_int (fun _ _ => rfl)) (pe_ix ix_tup (pv 1) pe_int (fun _ _ => rfl))) (nomark _))))) (pss_one (ps_set (i := 1) sc_longest_wait.nd rfl (by first | exact Or.inl rfl | exact Or.inr rfl) (pe_tup (pa_cons (pv 2) (pa_cons (pv 3) pa_nil))))) pss_nil)))
    (pss_one (ps_ret (pv 1))))), ?_⟩
    refine ⟨_, rfl, av, rs, rfl, hR, ok, fun H1 p s1 np hp => ⟨p, rs, rfl, hp, ok.1, (fun r hr => (ok.2.1 r hr).2.1), ok.2.2, fun H2 p2 s2 n2 h2 => ?_⟩⟩
    obtain ⟨xs, hx, hpr⟩ := h2
    have lx : xs.length = (blR rs).length := Paired.len hpr
    refine ⟨p2, rfl, ⟨xs, .of hx⟩, for_list (K := K) (a := p2) (xs := xs) (fun i σ H' => ∃ v y2 y3 y4, σ = [some av, some v, y2, y3, y4] ∧ Same H2 H' ∧ OPV H' v (lwR ((blR rs).take i))) ⟨.non, none, none, none, rfl, Same.refl _, rfl⟩ (fun i σ H' _ hP => ?_) (fun i x σ H3 ex hP => ?_) (fun σ H3 hP => ?_)⟩
    · obtain ⟨_, _, _, _, _, sm, _⟩ := hP
      exact .of (sm _ _ hx)
    · obtain ⟨v, y2, y3, y4, rfl, sm, hv⟩ := hP
      obtain ⟨b, eb, hb⟩ := Paired.at hpr ex
      obtain ⟨t, rfl, ht⟩ := BV.same sm hb
      refine ⟨t, _, rfl, .of ht, rfl, _, _, rfl, _, _, rfl, _, _, rfl, rfl, ?_⟩
      rw [take_snoc eb, lwR_snoc]
      generalize lwR ((blR rs).take i) = l at hv ⊢
      cases l with
      | none =>
        cases hv
        exact ⟨_, rfl, rfl, _, rfl, iteP rfl ⟨_, rfl, _, rfl, (by show 2 ≤ sizeLine; decide), fun u nu => ⟨_, _, _, _, rfl, sm.trans (same_upd nu), ⟨u, rfl, upd_same⟩⟩⟩⟩
      | some pr =>
        obtain ⟨tp, rfl, htp⟩ := hv
        refine ⟨_, rfl, rfl, _, rfl, iteN rfl ⟨_, rfl, _, rfl, _, _, rfl, rfl, _, rfl, tp, _, 1, _, rfl, rfl, .of htp, at1, _, rfl, tp, _, 0, _, rfl, rfl, .of htp, at0, _, _, rfl, rfl, _, _, rfl, rfl, _, rfl, ?_⟩⟩
        by_cases c : pr.2 - pr.1 < b.2.1 - b.1
        · rw [show lwS (some pr) b = some (b.1, b.2.1) from if_pos c]
          exact iteP (decide_eq_true c) ⟨_, rfl, _, rfl, (by show 2 ≤ sizeLine; decide), fun u nu => ⟨_, _, _, _, rfl, sm.trans (same_upd nu), ⟨u, rfl, upd_same⟩⟩⟩
        · rw [show lwS (some pr) b = some pr from if_neg c]
          exact iteN (decide_eq_false c) ⟨_, _, _, _, rfl, sm, ⟨tp, rfl, htp⟩⟩
    · obtain ⟨v, y2, y3, y4, rfl, sm, hv⟩ := hP
      rw [lx, List.take_length] at hv
      exact ⟨_, rfl, q _ _ (s1.trans (s2.trans sm)) hv⟩
/-! is_pair: slots 0:value -/
abbrev s_is_pair : Stmt := topS 29
theorem sc_is_pair : FnScope ["value"] ["value"] (defScope s_is_pair) := ⟨rfl, rfl, rfl, by decide +kernel, rfl, by decide +kernel, by decide +kernel⟩
def sp_is_pair : Sp := fun vs H Q _ => ∃ (v : V) (p : Pr), vs = [v] ∧ PV H v p ∧ ∀ H', Same H H' → Q (.bl true) H'
theorem ok_is_pair (D : Df K mg "is_pair" s_is_pair) (G_is_couple : Has P w K mg base 1 "is_couple" ["value"] sp_is_couple) (G_is_whole : Has P w K mg base 1 "is_whole" ["value"] sp_is_whole) : Has P w K mg base 2 "is_pair" ["value"] sp_is_pair := by
  refine has_of D sc_is_pair (fun _ _ _ _ _ _ us hl => match us, hl with | [_], _ => rfl) (fun vs H Q E h => ?_) (fun f cdv A outer s H vs Q E hr h => ?_)
  · obtain ⟨v, r, rfl, _⟩ := h
    rfl
  · obtain ⟨v, p, rfl, ⟨t, rfl, ht⟩, q⟩ := h
    refine ⟨_, (pss_one (ps_ret (pe_and (pe_callH G_is_couple (hr.mono (by omega)) (by rfl) (pa_cons (pv 0) pa_nil)) (pe_and (pe_callH G_is_whole (hr.mono (by omega)) (by rfl) (pa_cons (pe_ix ix_seq (pv 0) pe_int (fun _ _ => rfl)) pa_nil)) (pe_one (pe_callH G_is_whole (hr.mono (by omega)) (by rfl) (pa_cons (pe_ix ix_seq (pv 0) pe_int (fun _ _ => rfl)) pa_nil))))))), ?_⟩
    refine ⟨_, rfl, t, _, rfl, .inr ht, rfl, fun H1 s1 => ⟨true, rfl, iteT ?_⟩⟩
    refine ⟨_, rfl, .inr (.inl ⟨t, _, 0, _, rfl, rfl, .of (s1 _ _ ht), at0, ⟨p.1, rfl, true, rfl, iteT ?_⟩⟩)⟩
    exact ⟨_, rfl, .inr (.inl ⟨t, _, 1, _, rfl, rfl, .of (s1 _ _ ht), at1, ⟨p.2, rfl, q _ s1⟩⟩)⟩
/-! is_pairing: slots 0:sequence 1:value 2:blocks 3:pairs 4:at 5:first 6:second 7:count 8:pair -/
abbrev s_is_pairing : Stmt := topS 31
theorem sc_is_pairing : FnScope ["sequence", "value", "blocks", "pairs", "at", "first", "second", "count", "pair"] ["sequence", "value"] (defScope s_is_pairing) := ⟨rfl, rfl, rfl, by decide +kernel, rfl, by decide +kernel, by decide +kernel⟩
def sp_is_pairing : Sp := fun vs H Q _ => ∃ (av : V) (rs : List Run) (a : Addr) (ps : List Pr), vs = [av, .ref a] ∧ RunsG H av rs ∧ SeqOk rs ∧ Rngs H a ps ∧ ps.length ≤ 400 ∧ ∀ H', Same H H' → Q (.bl (decide (cntB (blR rs) ≤ 400 ∧ ps = flB (blR rs)))) H'
theorem ok_is_pairing (D : Df K mg "is_pairing" s_is_pairing) (T : Tx mg) (G_checked_runs : Has P w K mg base 5 "checked_runs" ["sequence"] sp_checked_runs) (G_blocks_of : Has P w K mg base 3 "blocks_of" ["runs"] sp_blocks_of) (G_pairs_in : Has P w K mg base 1 "pairs_in" ["blocks"] sp_pairs_in)
    (G_is_listed : Has P w K mg base 1 "is_listed" ["value", "most"] sp_is_listed) (G_is_pair : Has P w K mg base 2 "is_pair" ["value"] sp_is_pair) : Has P w K mg base 6 "is_pairing" ["sequence", "value"] sp_is_pairing := by
  refine has_of D sc_is_pairing (fun _ _ _ _ _ _ us hl => match us, hl with | [_, _], _ => rfl) (fun vs H Q E h => ?_) (fun f cdv A outer s H vs Q E hr h => ?_)
  · obtain ⟨v, r, _, _, rfl, _⟩ := h
    rfl
  · obtain ⟨av, rs, a, ps, rfl, hR, ok, hV, l4, q⟩ := h
    have pos : ∀ r ∈ rs, 1 ≤ r.2 := fun r hr => (ok.2.1 r hr).2.1
    obtain ⟨_, wb⟩ := whole_pairs pos ok.2.2
    have lb : (blR rs).length ≤ 160000 := by
      refine Nat.le_trans (boR_len rs none 0 [] []) ?_
      have h1 := ok.1
      have h2 := Nat.mul_le_mul h1 h1
      show ([] : List Blk).length + rs.length * (0 + rs.length) ≤ _
      rw [List.length_nil, Nat.zero_add, Nat.zero_add]
      omega
    have cf := cnt_fl _ wb
    refine ⟨_, (pss_cons (ps_set (i := 2) sc_is_pairing.nd rfl (by first | exact Or.inl rfl | exact Or.inr rfl) (pe_callH G_blocks_of (hr.mono (by omega)) (by rfl) (pa_cons (pe_callH G_checked_runs (hr.mono (by omega)) (by rfl) (pa_cons (pv 0) pa_nil)) pa_nil)))
    (pss_cons (ps_if (PW.pt (pw_or (pt_cmpR op_gt (pe_callH G_pairs_in (hr.mono (by omega)) (by rfl) (pa_cons (pv 2) pa_nil)) (pe_glI T.c_MAX_PAIRS (by rfl)) (nomark _)) (pw_or (pt_not (pt_val (pe_callH G_is_listed (hr.mono (by omega)) (by rfl) (pa_cons (pv 1) (pa_cons (pe_glI T.c_MAX_PAIRS (by rfl)) pa_nil))))) (pw_or1 (pt_not (pt_val (pe_callB (cr_all rfl) (by rfl) T.n_all (by decide +kernel) (pa_cons (pe_lc (own := [("pair", 8)]) rfl sc_is_pairing.nd (pi_list (pv 1)) (blkOk_by (N := ["sequence", "value", "blocks", "pairs", "at", "first", "second", "count", "pair"]) (sc := defScope s_is_pairing) (by decide +kernel)) (fun _ _ _ _ _ => (pg_name (i := 8) sc_is_pairing.nd rfl (by first | exact Or.inl rfl | exact Or.inr rfl))) (fun _ _ _ _ _ => pts_nil) (fun _ _ _ _ _ => (pe_callH G_is_pair (hr.mono (by omega)) (by rfl) (pa_cons (pv 8) pa_nil)))) pa_nil)))))))) (pss_one (ps_ret pe_bl)) pss_nil)
    (pss_cons (ps_setLc2 (i := 3) (own := [("first", 5), ("second", 6), ("count", 7), ("at", 4)]) (vs1 := [4]) rfl sc_is_pairing.nd rfl rfl (sw_true rfl rfl rfl (by decide +kernel)) (pi_list (pv 2)) (blkOk_by (N := ["sequence", "value", "blocks", "pairs", "at", "first", "second", "count", "pair"]) (sc := defScope s_is_pairing) (by decide +kernel)) (by decide) (fun _ _ _ _ _ => (pg_tupK (K := K) (n := 3) rfl rfl (pgs_cons (pg_name (i := 5) sc_is_pairing.nd rfl (by first | exact Or.inl rfl | exact Or.inr rfl)) (pgs_cons (pg_name (i := 6) sc_is_pairing.nd rfl (by first | exact Or.inl rfl | exact Or.inr rfl)) (pgs_cons (pg_name (i := 7) sc_is_pairing.nd rfl (by first | exact Or.inl rfl | exact Or.inr rfl)) pgs_nil))))) (fun _ _ _ _ _ => pts_nil) (fun _ _ _ _ _ => (pi_range1 (by rfl) T.n_range (pa_cons (pv 7) pa_nil))) (fun _ _ _ _ _ => (pg_name (i := 4) sc_is_pairing.nd rfl (by first | exact Or.inl rfl | exact Or.inr rfl))) (fun _ _ _ _ _ => pts_nil) (fun _ _ _ _ _ => (pe_tup (pa_cons (pe_op op_add (pv 5) (pv 4)) (pa_cons (pe_op op_add (pv 6) (pv 4)) pa_nil)))))
    (pss_one (ps_ret (pe_cmpR (op_eqD hr.units) (pe_lc (own := [("pair", 8)]) rfl sc_is_pairing.nd (pi_list (pv 1)) (blkOk_by (N := ["sequence", "value", "blocks", "pairs", "at", "first", "second", "count", "pair"]) (sc := defScope s_is_pairing) (by decide +kernel)) (fun _ _ _ _ _ => (pg_name (i := 8) sc_is_pairing.nd rfl (by first | exact Or.inl rfl | exact Or.inr rfl))) (fun _ _ _ _ _ => pts_nil) (fun _ _ _ _ _ => (pe_tup (pa_cons (pe_ix (ix_tupK (K := K) rfl) (pv 8) pe_int (fun _ _ => rfl)) (pa_cons (pe_ix (ix_tupK (K := K) rfl) (pv 8) pe_int (fun _ _ => rfl)) pa_nil))))) (pv 3) (nomark _))))))), ?_⟩
    refine ⟨_, rfl, av, rs, rfl, hR, ok, fun H1 p s1 np hp => ⟨p, rs, rfl, hp, ok.1, pos, ok.2.2, fun H2 p2 s2 n2 h2 => ?_⟩⟩
    generalize blR rs = B at *
    refine ⟨_, rfl, p2, B, rfl, h2, by omega, fun H3 s3 => ⟨_, _, rfl, rfl, _, rfl, ?_⟩⟩
    have sA := s1.trans (s2.trans s3)
    by_cases c : 400 < cntB B
    · refine iteP (decide_eq_true c) ?_
      have := q _ sA
      rw [decide_eq_false (fun z => by have := z.1; omega)] at this
      exact this
    refine iteN (decide_eq_false c) ?_
    obtain ⟨ys, hy, hyp⟩ := hV.same sA
    have ly : ys.length = ps.length := Paired.len hyp
    refine ⟨_, rfl, a, ys, 400, rfl, .inl hy, fun H4 s4 => ⟨_, rfl, iteN ?_ ?_⟩⟩
    · rw [decide_eq_true (by omega)]
      rfl
    have hy4 := s4 _ _ hy
    refine ⟨_, rfl, a, rfl, ⟨ys, .of hy4⟩, fun L nL => lc_list (K := K) (a := a) (xs := ys) (fun i H' => Same H4 H' ∧ H' L = some (.lst ((List.replicate i true).map V.bl))) ⟨same_upd nL, upd_same⟩ (fun i H' _ p => .of (p.1 _ _ hy4)) (fun i x H5 ex hP => ?_) (fun H5 hP => ?_)⟩
    · obtain ⟨sm, hL⟩ := hP
      obtain ⟨r, er, hr1⟩ := Paired.at hyp ex
      have hi : i < ys.length := (List.getElem?_eq_some_iff.mp ex).1
      refine ⟨rfl, yesT ⟨_, rfl, x, r, rfl, PV.same (s4.trans sm) hr1, fun H6 s6 => ⟨_, s6 _ _ hL, ?_, same_grow nL (sm.trans s6), ?_⟩⟩⟩
      · simp only [List.length_map, List.length_replicate]
        exact small (by omega)
      · rw [upd_same, List.replicate_succ', List.map_append]
        rfl
    obtain ⟨s5, hL⟩ := hP
    refine ⟨L, _, rfl, .of hL, _, rfl, iteN ?_ ?_⟩
    · rw [all_rep]
      rfl
    have s35 := s4.trans s5
    obtain ⟨xs, hx, hpr⟩ := (h2.same s3).same s35
    have lx : xs.length = B.length := Paired.len hpr
    -- the pairs
    refine ⟨_, rfl, p2, rfl, ⟨xs, .of hx⟩, fun M nM => ⟨fun i m H' => m = xs.length - i ∧ i ≤ xs.length ∧ Same H5 H' ∧ ∃ zs, H' M = some (.lst zs) ∧ Paired (PV H') zs (flB (B.take i)), ⟨_, rfl, Nat.zero_le _, same_upd nM, [], upd_same, .nil⟩, fun i m H' hW => ?_⟩⟩
    obtain ⟨rfl, hi, sm, zs, hM, hz⟩ := hW
    have cl : ∀ i, ((flB (B.take i)).length : Int) ≤ 400 := by
      intro i
      have e : flB B = flB (B.take i) ++ flB (B.drop i) := by rw [← flB_app, List.take_append_drop]
      have := congrArg List.length e
      rw [List.length_append] at this
      omega
    by_cases hlt : i < xs.length
    · obtain ⟨b, eb⟩ : ∃ b, B[i]? = some b := ⟨_, List.getElem?_eq_getElem (by omega)⟩
      obtain ⟨x, ex, hb⟩ := Paired.at' hpr eb
      have pb := wb b (List.mem_of_getElem? eb)
      have cb := cl (i + 1)
      rw [take_snoc eb, flB_snoc, List.length_append, flX_len] at cb
      refine .inr ⟨⟨xs, x, .of (sm _ _ hx), ex⟩, fun H' => Same H5 H' ∧ ∃ zs, H' M = some (.lst zs) ∧ Paired (PV H') zs (flB (B.take (i + 1))), fun H' z => ⟨xs.length - (i + 1), by omega, rfl, hlt, z⟩, fun y H6 hy6 => ?_⟩
      obtain ⟨rfl, hy6⟩ := hy6
      have ey := hy6 xs (.of (sm _ _ hx))
      rw [ex] at ey
      cases ey
      obtain ⟨t, rfl, ht⟩ := BV.same sm hb
      refine ⟨t, _, rfl, .of ht, rfl, _, _, rfl, _, _, rfl, _, _, rfl, rfl, rfl, yesT ?_⟩
      refine ⟨_, rfl, b.2.2, rfl, by omega, by omega, ?_⟩
      refine ⟨fun j k H' => k = b.2.2.toNat - j ∧ j ≤ b.2.2.toNat ∧ Same H5 H' ∧ ∃ zs, H' M = some (.lst zs) ∧ Paired (PV H') zs (flB (B.take i) ++ zpL (posL b.1 j) b.2.1), ⟨_, rfl, Nat.zero_le _, sm, zs, hM, ?_⟩, fun j k H' hW => ?_⟩
      · show Paired _ zs (flB (B.take i) ++ [])
        rw [List.append_nil]
        exact hz
      obtain ⟨rfl, hj, sm, zs, hM, hz⟩ := hW
      by_cases hlj : j < b.2.2.toNat
      · refine .inr ⟨hlj, fun H' => Same H5 H' ∧ ∃ zs, H' M = some (.lst zs) ∧ Paired (PV H') zs (flB (B.take i) ++ zpL (posL b.1 (j + 1)) b.2.1), fun H' z => ⟨_, by omega, rfl, hlj, z⟩, fun y H7 hy7 => ?_⟩
        obtain ⟨rfl, rfl⟩ := hy7
        have lz : zs.length ≤ 1000 := by
          have := Paired.len hz
          rw [List.length_append, zpL_len, posL_len] at this
          omega
        refine ⟨rfl, yesT ⟨_, rfl, _, rfl, _, _, rfl, rfl, _, rfl, _, rfl, _, _, rfl, rfl, (by show 2 ≤ sizeLine; decide), fun u nu => ⟨_, same_upd nu _ _ hM, small (by omega), same_grow nM (sm.trans (same_upd nu)), _, upd_same, ?_⟩⟩⟩
        rw [zp_snoc, ← List.append_assoc]
        refine Paired.app (pvs_grow (same_upd nu _ _ hM) (pvs_same (same_upd nu) hz)) (.cons (PV.grow (same_upd nu _ _ hM) ⟨u, rfl, ?_⟩) .nil)
        rw [upd_same]
        show some (HO.tup [V.int (b.1 + (0 + (j : Int))), V.int (b.2.1 + (0 + (j : Int)))]) = some (HO.tup [V.int (b.1 + (j : Int)), V.int (b.2.1 + (j : Int))])
        rw [Int.zero_add]
      · have e : j = b.2.2.toNat := by omega
        subst e
        refine .inl ⟨Nat.le_refl _, sm, zs, hM, ?_⟩
        rw [take_snoc eb, flB_snoc]
        exact hz
    · have e : i = xs.length := by omega
      subst e
      rw [lx, List.take_length] at hz
      refine .inl ⟨⟨xs, .of (sm _ _ hx), Nat.le_refl _⟩, ?_⟩
      -- the comparison
      have s46 := s4.trans (s5.trans sm)
      have hy6 := sm _ _ (s5 _ _ hy4)
      have hyp6 := pvs_same (s46) hyp
      refine ⟨_, rfl, a, rfl, ⟨ys, .of hy6⟩, fun N nN => lc_list (K := K) (a := a) (xs := ys) (fun i H'' => Same H' H'' ∧ ∃ ws, H'' N = some (.lst ws) ∧ Paired (PV H'') ws (ps.take i)) ⟨same_upd nN, [], upd_same, .nil⟩ (fun i H' _ p => .of (p.1 _ _ hy6)) (fun i x H7 ex hP => ?_) (fun H7 hP => ?_)⟩
      · obtain ⟨s7, ws, hN, hw⟩ := hP
        obtain ⟨r, er, hr1⟩ := Paired.at hyp6 ex
        obtain ⟨t, rfl, ht⟩ := PV.same s7 hr1
        have hi : i < ys.length := (List.getElem?_eq_some_iff.mp ex).1
        refine ⟨rfl, yesT ⟨_, rfl, t, _, 0, _, rfl, rfl, .of ht, at0, _, rfl, t, _, 1, _, rfl, rfl, .of ht, at1, (by show 2 ≤ sizeLine; decide), fun u nu => ⟨_, same_upd nu _ _ hN, ?_, same_grow nN (s7.trans (same_upd nu)), _, upd_same, ?_⟩⟩⟩
        · have := Paired.len hw
          rw [List.length_take] at this
          exact small (by omega)
        · rw [take_snoc er]
          exact Paired.app (pvs_grow (same_upd nu _ _ hN) (pvs_same (same_upd nu) hw)) (.cons (PV.grow (same_upd nu _ _ hN) ⟨u, rfl, upd_same⟩) .nil)
      · obtain ⟨s7, ws, hN, hw⟩ := hP
        rw [ly, List.take_length] at hw
        refine ⟨_, rfl, .list (ps.map dPr), .list ((flB B).map dPr), .lst (.of hN) (dp_pr hw), .lst (.of (s7 _ _ hM)) (dp_pr (pvs_same s7 hz)), shaped_pr _, shaped_pr _, ?_⟩
        rw [eqv_pr]
        have := q _ (sA.trans (s46.trans s7))
        rw [show decide (cntB B ≤ 400 ∧ ps = flB B) = decide (ps = flB B) from by simp [show cntB B ≤ 400 by omega]] at this
        exact this
end
end UP

set_option Elab.async false
set_option linter.all false
set_option maxRecDepth 100000
set_option maxHeartbeats 4000000
set_option pp.maxSteps 600
namespace UP
open PySem PySem.Spec PyProof.Rows L2
/-! ### zip of two values, each a list, a tuple or a text -/
inductive Sd where
  | lst (a : Addr) (xs : List V)
  | tup (a : Addr) (xs : List V)
  | str (z : Str) (t : Tok)
def Sd.xs : Sd → List V
  | .lst _ xs => xs
  | .tup _ xs => xs
  | .str z _ => z.cps.toList.map fun c => V.str ⟨#[c]⟩
def Sd.here (K : PySem.W.Frag) (H : Hp) : Sd → Prop
  | .lst a xs => SqL K H a xs
  | .tup a xs => SqT K H a xs
  | .str _ _ => True
def Sd.itr (it : Addr) (i : Nat) (h : Heap) : Sd → Prop
  | .lst a _ => h.IsListIter it a i
  | .tup a _ => h.IsTupleIter it a i
  | .str z t => h.IsStrIter it (strIterType z) z t i
def Sd.fp (it : Addr) : Sd → List Addr
  | .lst a _ => [it, a]
  | .tup a _ => [it, a]
  | .str _ _ => [it]
def Sd.far (x : Addr) : Sd → Prop
  | .lst a _ => a ≠ x
  | .tup a _ => a ≠ x
  | .str _ _ => True
def Sd.val : Sd → V
  | .lst a _ => .ref a
  | .tup a _ => .ref a
  | .str z _ => .str z
theorem Sd.not_in {S : Sd} {x it : Addr} (h : S.far x) (n : x ≠ it) : x ∉ S.fp it := by
  have two : ∀ {a : Addr}, a ≠ x → x ∉ [it, a] := fun {a} h m => by
    rcases List.mem_cons.mp m with e | e
    · exact n e
    · exact h (List.mem_singleton.mp e).symm
  cases S with
  | lst a xs => exact two h
  | tup a xs => exact two h
  | str z t => exact fun m => n (List.mem_singleton.mp m)
theorem zne {n i j : Nat} (h : i ≠ j) : n + i ≠ n + j := fun e => h (Nat.add_left_cancel e)
/-- u is its value -/
def Sd.is (u : Value) : Sd → Prop
  | .lst a _ => u = .ref a
  | .tup a _ => u = .ref a
  | .str z t => u = .str z t
theorem Sd.it_in (S : Sd) (it : Addr) : it ∈ S.fp it := by cases S <;> exact List.mem_cons_self ..
theorem Sd.cell {S : Sd} {it : Addr} {i : Nat} {h : Heap} (st : S.itr it i h) : ∃ o, h.get? it = some o ∧ ∀ v, o.data ≠ .cell v := by
  cases S with
  | lst a xs =>
    obtain ⟨o, e, _, d⟩ := st
    exact ⟨o, e, fun v q => by rw [d] at q; cases q⟩
  | tup a xs =>
    obtain ⟨o, e, _, d⟩ := st
    exact ⟨o, e, fun v q => by rw [d] at q; cases q⟩
  | str z t =>
    obtain ⟨o, e, _, d⟩ := st
    exact ⟨o, e, fun v q => by rw [d] at q; cases q⟩
theorem Sd.kept {S : Sd} {it : Addr} {i : Nat} {h h' : Heap} (st : S.itr it i h) (k : ∀ o, h.get? it = some o → h'.get? it = some o) : S.itr it i h' := by
  cases S with
  | lst a xs =>
    obtain ⟨o, e, r⟩ := st
    exact ⟨o, k o e, r⟩
  | tup a xs =>
    obtain ⟨o, e, r⟩ := st
    exact ⟨o, k o e, r⟩
  | str z t =>
    obtain ⟨o, e, r⟩ := st
    exact ⟨o, k o e, r⟩
/-- its iterator draws -/
theorem Sd.draws {X : Cx} {pins : List (Addr × Obj)} {σ : L2.St} {H : Hp} {s : Shared} (I : Inv X pins σ H s) {A : Around} (hh : A.handled = none) (S : Sd) (hr : S.here X.K H) {it : Addr} (f : S.far it) :
    ∃ (n : Nat) (Pv : Nat → Value → Prop) (St : Nat → Heap → Prop), Draws X.prog X.w A it (S.fp it) n Pv St ∧ n = S.xs.length ∧ (∀ i u, Pv i u → ∃ v, S.xs[i]? = some v ∧ RelV v u) ∧ (∀ i, S.itr it i s.heap → St i s.heap) ∧ ∀ i h, St i h → S.itr it i h := by
  have fit : ∀ {its : List Value} {xs : List V}, Vals xs its → ∀ (i : Nat) (u : Value), its.toArray[i]? = some u → ∃ v, xs[i]? = some v ∧ RelV v u := fun {its xs} rv i u hu => by
    have hu : its[i]? = some u := by simpa using hu
    have li : i < xs.length := by
      rw [rv.length]
      exact (List.getElem?_eq_some_iff.mp hu).1
    obtain ⟨u', e, r⟩ := rv.get (List.getElem?_eq_getElem li)
    rw [hu] at e
    cases e
    exact ⟨_, List.getElem?_eq_getElem li, r⟩
  cases S with
  | lst a xs =>
    obtain ⟨its, rv, p, _⟩ := I.list hr
    exact ⟨_, _, _, Draws.list hh it a f its.toArray, by show its.toArray.size = xs.length; simp [rv.length], fit rv, fun i st => ⟨st, p.isList⟩, fun i h st => st.1⟩
  | tup a xs =>
    obtain ⟨its, rv, p, _⟩ := I.tuple hr
    exact ⟨_, _, _, Draws.tuple hh it a f its.toArray, by show its.toArray.size = xs.length; simp [rv.length], fit rv, fun i st => ⟨st, p⟩, fun i h st => st.1⟩
  | str z t =>
    refine ⟨_, _, _, Draws.text hh it z t, by show z.cps.size = (z.cps.toList.map fun c => V.str ⟨#[c]⟩).length; simp, fun i u hu => ?_, fun i st => st, fun i h st => st⟩
    obtain ⟨c, k, hc, rfl⟩ := hu
    refine ⟨.str ⟨#[c]⟩, ?_, k, rfl⟩
    show (z.cps.toList.map fun c => V.str ⟨#[c]⟩)[i]? = _
    rw [List.getElem?_map, Array.getElem?_toList, hc]
    rfl
def ItG (K : PySem.W.Frag) (S1 S2 : Sd) : It :=
  ⟨fun i H => S1.here K H ∧ S2.here K H ∧ i < S1.xs.length ∧ i < S2.xs.length,
    fun i H v H' => ∃ T x y, v = .ref T ∧ H T = none ∧ H' = upd H T (.tup [x, y]) ∧ S1.xs[i]? = some x ∧ S2.xs[i]? = some y,
    fun i H => S1.here K H ∧ S2.here K H ∧ i ≤ S1.xs.length ∧ i ≤ S2.xs.length ∧ (i = S1.xs.length ∨ i = S2.xs.length)⟩
theorem turn_zipG {P : Program} {w : World} {K : PySem.W.Frag} {elts : List Expr} {kk : Nat} {tpos : Pos} {z TI TO i1 i2 : Addr} {S1 S2 : Sd} (D : ZipSep2 z TI TO i1 i2 (S1.fp i1) (S2.fp i2)) (f1 : S1.far i1) (f2 : S2.far i2) :
    Turn P w K (.Tuple elts kk tpos) (ItG K S1 S2) [z, TI, TO, i1, i2] z (fun i h => IsZip h z TI TO .none ∧ IsTupOf2 h TI (.ref i1) (.ref i2) ∧ (∃ x y, IsTupOf2 h TO x y) ∧ S1.itr i1 i h ∧ S2.itr i2 i h) where
  mem := by simp
  obj := fun i h st c hc => by
    obtain ⟨hz, hTI, ⟨x, y, hTO⟩, t1, t2⟩ := st
    simp only [List.mem_cons, List.not_mem_nil, or_false] at hc
    rcases hc with rfl | rfl | rfl | rfl | rfl
    · exact ⟨_, hz, fun v q => nomatch q⟩
    · exact ⟨_, hTI, fun v q => nomatch q⟩
    · exact ⟨_, hTO, fun v q => nomatch q⟩
    · exact Sd.cell t1
    · exact Sd.cell t2
  keep := fun i h h' st k => by
    obtain ⟨hz, hTI, ⟨x, y, hTO⟩, t1, t2⟩ := st
    exact ⟨k z (by simp) _ hz, k TI (by simp) _ hTI, ⟨x, y, k TO (by simp) _ hTO⟩, Sd.kept t1 fun o q => k i1 (by simp) o q, Sd.kept t2 fun o q => k i2 (by simp) o q⟩
  item := by
    intro X hP hw hK hc i pins s σ H E I hf st hg
    subst hP hw hK
    obtain ⟨hz, hTI, ⟨x0, y0, hTO⟩, t1, t2⟩ := st
    obtain ⟨e1, e2, l1, l2⟩ := hg
    have hh : X.A.in1.handled = none := I.ok.hd hc
    obtain ⟨n1, P1, St1, D1, en1, it1, to1, fr1⟩ := S1.draws I hh e1 f1
    obtain ⟨n2, P2, St2, D2, en2, it2, to2, fr2⟩ := S2.draws I hh e2 f2
    have zl : z < s.heap.objs.size := Heap.lt_size hz
    refine wpAny_pyNext_zipD2_item D D1 D2 hz hTI hTO (to1 i t1) (to2 i t2) (by omega) (by omega) fun x1 x2 h' tk p1 p2 z' TO' s1 s2 hT hsz hk => ?_
    obtain ⟨v1, ev1, r1⟩ := it1 i x1 p1
    obtain ⟨v2, ev2, r2⟩ := it2 i x2 p2
    refine ⟨_, rfl, wpAny_letOwnedTupleGo_zip (s := { s with heap := h', toks := tk }) z' fun h'' z'' sb => ?_⟩
    have hT2 : h''.get? s.heap.objs.size = some { cls := .type "tuple", data := .seq #[x1, x2] } := (sb.2 _ (Nat.ne_of_gt zl)).trans hT
    have new : ObjOk X.prog X.w (upd H s.heap.objs.size (.tup [v1, v2])) h'' s.heap.objs.size (.tup [v1, v2]) := ⟨by show 2 ≤ sizeLine; decide, [x1, x2], .cons r1 (.cons r2 .nil), ⟨_, hT2, rfl, _, rfl⟩⟩
    have I1 : Inv X pins σ (upd H s.heap.objs.size (.tup [v1, v2])) { s with heap := h'', toks := tk } :=
      I.turnedNew (t' := tk) (ch := [z, TI, TO, i1, i2]) (fun c o nb q => (sb.2 c (fun e => nb (by simp [e]))).trans (hk c o (fun e => nb (by simp [e])) (fun e => nb (by simp [e])) (fun e => nb (by simp [e])) (fun e => nb (by simp [e])) q)) hf (Nat.le_refl _) new
    refine ⟨.ref s.heap.objs.size, _, I1, rfl, ⟨_, v1, v2, rfl, I.hok.fresh (Nat.le_refl _), rfl, ev1, ev2⟩, ⟨z'', ?_, ⟨x1, x2, ?_⟩, ?_, ?_⟩, fun c hcm => ?_⟩
    · exact (sb.2 _ D.TIz).trans (hk _ _ D.TIz D.TITO D.TIi1 D.TIi2 hTI)
    · exact (sb.2 _ D.TOz).trans TO'
    · exact Sd.kept (fr1 _ _ s1) fun o q => (sb.2 _ D.zi1.symm).trans q
    · exact Sd.kept (fr2 _ _ s2) fun o q => (sb.2 _ D.zi2.symm).trans q
    · have hlt : c < s.heap.objs.size := by
        have hcm' := hcm
        simp only [List.mem_cons, List.not_mem_nil, or_false] at hcm'
        rcases hcm' with q | q | q | q | q
        · rw [q]; exact zl
        · rw [q]; exact Heap.lt_size hTI
        · rw [q]; exact Heap.lt_size hTO
        · rw [q]; obtain ⟨_, e, _⟩ := Sd.cell t1; exact Heap.lt_size e
        · rw [q]; obtain ⟨_, e, _⟩ := Sd.cell t2; exact Heap.lt_size e
      rw [upd_ne (Nat.ne_of_lt hlt)]
      exact (hf c hcm).1
  done := by
    intro X hP hw hK hc i pins s σ H E I hf st hg
    subst hP hw hK
    obtain ⟨hz, hTI, ⟨x0, y0, hTO⟩, t1, t2⟩ := st
    obtain ⟨e1, e2, l1, l2, le⟩ := hg
    have hh : X.A.in1.handled = none := I.ok.hd hc
    obtain ⟨n1, P1, St1, D1, en1, it1, to1, fr1⟩ := S1.draws I hh e1 f1
    obtain ⟨n2, P2, St2, D2, en2, it2, to2, fr2⟩ := S2.draws I hh e2 f2
    exact wpAny_pyNext_zipD2_end D D1 D2 hz hTI hTO (to1 i t1) (to2 i t2) (by omega) (by omega) (by omega) fun h' tk hk => ⟨rfl, I.turnedL (t' := tk) (ch := [z, TI, TO, i1, i2]) (fun c o nb q => hk c o (fun e => nb (by simp [e])) (fun e => nb (by simp [e])) (fun e => nb (by simp [e])) (fun e => nb (by simp [e])) q) hf⟩
  self := fun A i s Q E st h => wpAny_pyIter_zip st.1 h
/-- how it begins -/
theorem Sd.begins {X : Cx} {pins : List (Addr × Obj)} {σ : L2.St} {H : Hp} {s : Shared} (I : Inv X pins σ H s) (S : Sd) (hr : S.here X.K H) {u : Value} (hu : S.is u) :
    ∃ (o : Obj) (B : Heap → Prop), Begins u o B ∧ B s.heap ∧ (∀ (it : Addr) (h : Heap), h.get? it = some o → S.itr it 0 h) ∧ ∀ x, s.heap.objs.size ≤ x → S.far x := by
  cases S with
  | lst a xs =>
    obtain ⟨its, rv, p, _⟩ := I.list hr
    cases (show u = Value.ref a from hu)
    exact ⟨_, _, begins_list a its.toArray, p.isList, fun it h e => ⟨_, e, rfl, rfl⟩, fun x l e => by
      have := p.lt
      rw [e] at this
      exact absurd this (Nat.not_lt.mpr l)⟩
  | tup a xs =>
    obtain ⟨its, rv, p, _⟩ := I.tuple hr
    cases (show u = Value.ref a from hu)
    exact ⟨_, _, begins_tuple a its.toArray, p, fun it h e => ⟨_, e, rfl, rfl⟩, fun x l e => by
      obtain ⟨_, g, _⟩ := id p
      have := Heap.lt_size g
      rw [e] at this
      exact absurd this (Nat.not_lt.mpr l)⟩
  | str z t =>
    cases (show u = Value.str z t from hu)
    exact ⟨_, _, begins_text z t, trivial, fun it h e => ⟨_, e, rfl, rfl⟩, fun x l => True.intro⟩
def iZipG (K : PySem.W.Frag) (ta : TA) : TI := fun σ H R => ta σ H fun vs H1 => ∃ v1 v2, vs = [v1, v2] ∧
  ((∃ a xs b ys, v1 = .ref a ∧ v2 = .ref b ∧ (SqL K H1 a xs ∨ SqT K H1 a xs) ∧ (SqL K H1 b ys ∨ SqT K H1 b ys) ∧ ∀ S1 S2 : Sd, S1.xs = xs → S2.xs = ys → S1.here K H1 → S2.here K H1 → (S1 = .lst a xs ∨ S1 = .tup a xs) → (S2 = .lst b ys ∨ S2 = .tup b ys) → R (ItG K S1 S2) H1) ∨
   ∃ a xs z, v1 = .ref a ∧ v2 = .str z ∧ SqL K H1 a xs ∧ ∀ t, R (ItG K (.lst a xs) (.str z t)) H1)
theorem pi_zipG {X : Cx} {e e2 : Expr} {ta : TA} {p pos tpos : Pos} {elts : List Expr} {kk : Nat} (hg : Gl X "zip") (hm : X.mg "zip" = none) (ha : PA X [e, e2] ta)
    (hs : starEach [e, e2] X.env = (false, eval e X.env) :: starEach [e2] X.env := by rfl) (hpl : (backTo pos (starEach [e2] X.env)).any (·.1) = false := by rfl) :
    PI X (.Tuple elts kk tpos) (.Call (.Name "zip" p) [e, e2] [] pos) (iZipG X.K ta) := by
  constructor
  intro pins s σ H R I h
  refine Call_ (ld_blt I hg hm PyProof.Rows.boot_zip (PyProof.Rows.callWith_type1 (thn (ha.run pos pins s σ H _ I h) fun us s1 ⟨vs, H1, I1, r1, q1⟩ => ?_) hs hpl))
  obtain ⟨v1, v2, rfl, q1⟩ := q1
  cases r1 with
  | @cons _ u1 _ _ ru1 rr =>
    cases rr with
    | @cons _ u2 _ _ ru2 rr =>
      cases rr
      have main : ∀ S1 S2 : Sd, S1.here X.K H1 → S2.here X.K H1 → S1.is u1 → S2.is u2 → R (ItG X.K S1 S2) H1 →
          wpAny (model X.prog X.w) X.A (call (.type "zip") [u1, u2]) (fun v s2 => wpAny (model X.prog X.w) X.A (pyIter v) (PIE X pins σ (.Tuple elts kk tpos) R) X.xe s2) X.xe s1 := fun S1 S2 h1 h2 m1 m2 q => by
        obtain ⟨o1, B1, b1, k1, i1, f1⟩ := S1.begins I1 h1 m1
        obtain ⟨o2, B2, b2, k2, i2, f2⟩ := S2.begins I1 h2 m2
        refine zip_begins2 b1 b2 k1 k2 fun h' hz hTI hTO g1 g2 hsz hk => wpAny_pyIter_zip hz ?_
        have I2 : Inv X pins σ H1 { s1 with heap := h' } := I1.kept (t' := s1.toks) hk
        have D : ZipSep2 (s1.heap.objs.size + 4) (s1.heap.objs.size + 2) (s1.heap.objs.size + 3) s1.heap.objs.size (s1.heap.objs.size + 1) (S1.fp s1.heap.objs.size) (S2.fp (s1.heap.objs.size + 1)) :=
          ⟨zne (by decide), zne (by decide), zne (by decide), zne (j := 0) (by decide), Sd.it_in _ _, Sd.not_in (f1 _ (Nat.le_add_right _ _)) (zne (j := 0) (by decide)), Sd.not_in (f1 _ (Nat.le_add_right _ _)) (zne (j := 0) (by decide)), zne (by decide), Sd.it_in _ _, Sd.not_in (f2 _ (Nat.le_add_right _ _)) (zne (by decide)), Sd.not_in (f2 _ (Nat.le_add_right _ _)) (zne (by decide)), Sd.not_in (f2 _ (Nat.le_refl _)) (zne (i := 0) (by decide)), Sd.not_in (f1 _ (Nat.le_add_right _ _)) (zne (j := 0) (by decide))⟩
        refine ⟨s1.heap.objs.size + 4, [s1.heap.objs.size + 4, s1.heap.objs.size + 2, s1.heap.objs.size + 3, s1.heap.objs.size, s1.heap.objs.size + 1], _, _, H1, rfl, I2, turn_zipG D (f1 _ (Nat.le_refl _)) (f2 _ (Nat.le_succ _)), ⟨hz, hTI, ⟨_, _, hTO⟩, i1 _ _ g1, i2 _ _ g2⟩, fun c hcm => ?_, q⟩
        have hle : s1.heap.objs.size ≤ c := by
          simp only [List.mem_cons, List.not_mem_nil, or_false] at hcm
          rcases hcm with e | e | e | e | e <;> rw [e] <;> first | exact Nat.le_add_right _ _ | exact Nat.le_refl _
        exact I1.fpOk hle (I1.hok.fresh hle)
      rcases q1 with ⟨a, xs, b, ys, rfl, rfl, h1, h2, q⟩ | ⟨a, xs, z, rfl, rfl, h1, q⟩
      · rcases h1 with h1 | h1
        · rcases h2 with h2 | h2
          · exact main (.lst a xs) (.lst b ys) h1 h2 ru1 ru2 (q _ _ rfl rfl h1 h2 (.inl rfl) (.inl rfl))
          · exact main (.lst a xs) (.tup b ys) h1 h2 ru1 ru2 (q _ _ rfl rfl h1 h2 (.inl rfl) (.inr rfl))
        · rcases h2 with h2 | h2
          · exact main (.tup a xs) (.lst b ys) h1 h2 ru1 ru2 (q _ _ rfl rfl h1 h2 (.inr rfl) (.inl rfl))
          · exact main (.tup a xs) (.tup b ys) h1 h2 ru1 ru2 (q _ _ rfl rfl h1 h2 (.inr rfl) (.inr rfl))
      · obtain ⟨t, rfl⟩ := ru2
        exact main (.lst a xs) (.str z t) h1 True.intro ru1 rfl (q t)
end UP

set_option Elab.async false
set_option linter.all false
set_option maxRecDepth 100000
set_option maxHeartbeats 4000000
namespace UP
open PySem PySem.Spec PyProof.Rows L2
/-! ### values of any form that a menu holds -/
inductive Dat where
  | non
  | bl (b : Bool)
  | int (n : Int)
  | str (z : Str)
  | dic
  | lst (l : List Dat)
  | tup (l : List Dat)
inductive Rp (H : Hp) : V → Dat → Prop where
  | non : Rp H .non .non
  | bl (b : Bool) : Rp H (.bl b) (.bl b)
  | int (n : Int) : Rp H (.int n) (.int n)
  | str (z : Str) : Rp H (.str z) (.str z)
  | dic {a : Addr} (e : H a = some (.dK [])) : Rp H (.ref a) .dic
  | lst {a : Addr} {xs : List V} {l : List Dat} (e : H a = some (.lst xs)) (h : Paired (Rp H) xs l) : Rp H (.ref a) (.lst l)
  | tup {a : Addr} {xs : List V} {l : List Dat} (e : H a = some (.tup xs)) (h : Paired (Rp H) xs l) : Rp H (.ref a) (.tup l)
theorem Rp.same {H H' : Hp} (s : Same H H') {v : V} {d : Dat} (h : Rp H v d) : Rp H' v d := by
  refine Rp.rec (motive_1 := fun v d _ => Rp H' v d) (motive_2 := fun xs l _ => Paired (Rp H') xs l) .non .bl .int .str ?_ ?_ ?_ .nil ?_ h
  · intro a e
    exact .dic (s _ _ e)
  · intro a xs l e _ ih
    exact .lst (s _ _ e) ih
  · intro a xs l e _ ih
    exact .tup (s _ _ e) ih
  · intro x y xs ys _ _ h1 h2
    exact .cons h1 h2
def Dat.isI : Dat → Bool
  | .int _ => true
  | _ => false
def Dat.inI (lo hi : Int) : Dat → Bool
  | .int n => decide (lo ≤ n ∧ n ≤ hi)
  | _ => false
/-- its parts, if it is a list or a tuple -/
def Dat.parts : Dat → Option (List Dat)
  | .lst l => some l
  | .tup l => some l
  | _ => none
def Dat.listed (d : Dat) (m : Int) : Bool := match d.parts with
  | some l => decide ((l.length : Int) ≤ m)
  | none => false
def Dat.couple (d : Dat) : Bool := match d.parts with
  | some l => decide (l.length = 2)
  | none => false
/-- the name of its type -/
def Dat.ty : Dat → String
  | .non => "NoneType"
  | .bl _ => "bool"
  | .int _ => "int"
  | .str _ => "str"
  | .dic => "dict"
  | .lst _ => "list"
  | .tup _ => "tuple"
theorem Rp.tyx {K : PySem.W.Frag} {H : Hp} {v : V} {d : Dat} (h : Rp H v d) : TyX K H v (.type d.ty) := by
  cases h with
  | non => exact .base .non
  | bl b => exact .base (.bl b)
  | int n => exact .base (.int n)
  | str z => exact .base (.str z)
  | dic e => exact .base (.dK e)
  | lst e _ => exact .base (.lst e)
  | tup e _ => exact .base (.tup e)
theorem Rp.noSeq {K : PySem.W.Frag} {H : Hp} {v : V} {d : Dat} (h : Rp H v d) (hd : d.parts = none) : ∃ t, TyX K H v t ∧ PySem.W.kitAny K t [.type "list", .type "tuple"] = some false := by
  cases h with
  | non => exact ⟨_, .base .non, kit_no (by decide +kernel) (by decide +kernel)⟩
  | bl b => exact ⟨_, .base (.bl b), kit_no (by decide +kernel) (by decide +kernel)⟩
  | int n => exact ⟨_, .base (.int n), kit_no (by decide +kernel) (by decide +kernel)⟩
  | str z => exact ⟨_, .base (.str z), kit_no (by decide +kernel) (by decide +kernel)⟩
  | dic e => exact ⟨_, .base (.dK e), kit_no (by decide +kernel) (by decide +kernel)⟩
  | lst e _ => cases hd
  | tup e _ => cases hd
theorem Rp.seq {H : Hp} {v : V} {d : Dat} (h : Rp H v d) {l : List Dat} (hd : d.parts = some l) : ∃ a xs, v = .ref a ∧ Sq2 H a xs ∧ Paired (Rp H) xs l := by
  cases h with
  | non => cases hd
  | bl b => cases hd
  | int n => cases hd
  | str z => cases hd
  | dic e => cases hd
  | lst e h => cases hd; exact ⟨_, _, rfl, .inl e, h⟩
  | tup e h => cases hd; exact ⟨_, _, rfl, .inr e, h⟩
theorem giP {b : Bool} {A B : Prop} (h : b = true) (x : A) : if b = true then A else B := by
  rw [if_pos h]
  exact x
theorem giN {b : Bool} {A B : Prop} (h : b = false) (x : B) : if b = true then A else B := by
  rw [if_neg (by rw [h]; decide)]
  exact x
section
variable {P : Program} {w : World} {K : PySem.W.Frag} {mg : Str → Option Value} {base : Heap}
def spD_is_whole : Sp := fun vs H Q _ => ∃ (v : V) (d : Dat), vs = [v] ∧ Rp H v d ∧ Q (.bl d.isI) H
theorem okD_is_whole (D : Df K mg "is_whole" s_is_whole) (T : Tx mg) : Has P w K mg base 1 "is_whole" ["value"] spD_is_whole := by
  refine has_of D sc_is_whole (fun _ _ _ _ _ _ us hl => match us, hl with | [_], _ => rfl) (fun vs H Q E h => ?_) (fun f cdv A outer s H vs Q E hr h => ?_)
  · obtain ⟨v, d, rfl, _⟩ := h
    rfl
  · obtain ⟨v, d, rfl, hv, q⟩ := h
    refine ⟨_, (pss_one (ps_ret (pe_and (pe_callB call_isi (by rfl) T.n_isinstance (by decide +kernel) (pa_cons (pv 0) (pa_cons (pe_bltn (v := .ty "int") (by rfl) T.n_int (by decide +kernel) rfl) pa_nil))) (pe_one (pe_not (pe_callB call_isi (by rfl) T.n_isinstance (by decide +kernel) (pa_cons (pv 0) (pa_cons (pe_bltn (v := .ty "bool") (by rfl) T.n_bool (by decide +kernel) rfl) pa_nil)))))))), ?_⟩
    cases hv with
    | int n => exact ⟨_, rfl, _, _, _, _, true, rfl, .ty "int", .base (.int n), kit_ty (by decide +kernel), true, rfl, iteT ⟨_, rfl, _, _, _, _, false, rfl, .ty "bool", .base (.int n), kit_ty (by decide +kernel), false, rfl, q⟩⟩
    | bl b => exact ⟨_, rfl, _, _, _, _, true, rfl, .ty "int", .base (.bl b), kit_ty (by decide +kernel), true, rfl, iteT ⟨_, rfl, _, _, _, _, true, rfl, .ty "bool", .base (.bl b), kit_ty (by decide +kernel), true, rfl, q⟩⟩
    | non => exact ⟨_, rfl, _, _, _, _, false, rfl, .ty "int", .base .non, kit_ty (by decide +kernel), false, rfl, iteF q⟩
    | str z => exact ⟨_, rfl, _, _, _, _, false, rfl, .ty "int", .base (.str z), kit_ty (by decide +kernel), false, rfl, iteF q⟩
    | dic e => exact ⟨_, rfl, _, _, _, _, false, rfl, .ty "int", .base (.dK e), kit_ty (by decide +kernel), false, rfl, iteF q⟩
    | lst e h => exact ⟨_, rfl, _, _, _, _, false, rfl, .ty "int", .base (.lst e), kit_ty (by decide +kernel), false, rfl, iteF q⟩
    | tup e h => exact ⟨_, rfl, _, _, _, _, false, rfl, .ty "int", .base (.tup e), kit_ty (by decide +kernel), false, rfl, iteF q⟩
def spD_is_listed : Sp := fun vs H Q _ => ∃ (v : V) (d : Dat) (m : Int), vs = [v, .int m] ∧ Rp H v d ∧ ∀ H', Same H H' → Q (.bl (d.listed m)) H'
theorem okD_is_listed (D : Df K mg "is_listed" s_is_listed) (T : Tx mg) : Has P w K mg base 1 "is_listed" ["value", "most"] spD_is_listed := by
  refine has_of D sc_is_listed (fun _ _ _ _ _ _ us hl => match us, hl with | [_, _], _ => rfl) (fun vs H Q E h => ?_) (fun f cdv A outer s H vs Q E hr h => ?_)
  · obtain ⟨v, d, m, rfl, _⟩ := h
    rfl
  · obtain ⟨v, d, m, rfl, hv, q⟩ := h
    refine ⟨_, (pss_one (ps_ret (pe_and (pe_callB call_isiT (by rfl) T.n_isinstance (by decide +kernel) (pa_cons (pv 0) (pa_cons (pe_tup (pa_cons (pe_bltn (v := .ty "list") (by rfl) T.n_list (by decide +kernel) rfl) (pa_cons (pe_bltn (v := .ty "tuple") (by rfl) T.n_tuple (by decide +kernel) rfl) pa_nil))) pa_nil))) (pe_one (pe_cmpR op_le (pe_callB call_len_seq (by rfl) T.n_len (by decide +kernel) (pa_cons (pv 0) pa_nil)) (pv 1) (nomark _)))))), ?_⟩
    refine ⟨_, rfl, (by show 2 ≤ sizeLine; decide), fun t nt => ?_⟩
    have q := q _ (same_upd (o := .tup [.ty "list", .ty "tuple"]) nt)
    have hv := hv.same (same_upd (o := .tup [.ty "list", .ty "tuple"]) nt)
    cases hd : d.parts with
    | none =>
      obtain ⟨tv, h1, h2⟩ := hv.noSeq (K := K) hd
      refine ⟨_, t, _, _, _, false, rfl, upd_same, .cons (.ty "list") (.cons (.ty "tuple") .nil), h1, h2, false, rfl, iteF ?_⟩
      rw [show d.listed m = false by unfold Dat.listed; rw [hd]] at q
      exact q
    | some l =>
      obtain ⟨a, xs, rfl, hx, hp⟩ := hv.seq hd
      have ll : xs.length = l.length := Paired.len hp
      rw [show d.listed m = decide ((xs.length : Int) ≤ m) by unfold Dat.listed; rw [hd, ll]] at q
      rcases hx with hx | hx
      · refine ⟨_, t, _, _, _, true, rfl, upd_same, .cons (.ty "list") (.cons (.ty "tuple") .nil), .base (.lst hx), kit_lst, true, rfl, iteT ?_⟩
        exact ⟨_, rfl, _, _, rfl, .inl (.of hx), _, rfl, _, _, rfl, rfl, q⟩
      · refine ⟨_, t, _, _, _, true, rfl, upd_same, .cons (.ty "list") (.cons (.ty "tuple") .nil), .base (.tup hx), kit_tup, true, rfl, iteT ?_⟩
        exact ⟨_, rfl, _, _, rfl, .inr (.of hx), _, rfl, _, _, rfl, rfl, q⟩
def spD_is_couple : Sp := fun vs H Q _ => ∃ (v : V) (d : Dat), vs = [v] ∧ Rp H v d ∧ ∀ H', Same H H' → Q (.bl d.couple) H'
theorem okD_is_couple (D : Df K mg "is_couple" s_is_couple) (T : Tx mg) : Has P w K mg base 1 "is_couple" ["value"] spD_is_couple := by
  refine has_of D sc_is_couple (fun _ _ _ _ _ _ us hl => match us, hl with | [_], _ => rfl) (fun vs H Q E h => ?_) (fun f cdv A outer s H vs Q E hr h => ?_)
  · obtain ⟨v, d, rfl, _⟩ := h
    rfl
  · obtain ⟨v, d, rfl, hv, q⟩ := h
    refine ⟨_, (pss_one (ps_ret (pe_and (pe_callB call_isiT (by rfl) T.n_isinstance (by decide +kernel) (pa_cons (pv 0) (pa_cons (pe_tup (pa_cons (pe_bltn (v := .ty "list") (by rfl) T.n_list (by decide +kernel) rfl) (pa_cons (pe_bltn (v := .ty "tuple") (by rfl) T.n_tuple (by decide +kernel) rfl) pa_nil))) pa_nil))) (pe_one (pe_cmpR op_eq (pe_callB call_len_seq (by rfl) T.n_len (by decide +kernel) (pa_cons (pv 0) pa_nil)) pe_int (nomark _)))))), ?_⟩
    refine ⟨_, rfl, (by show 2 ≤ sizeLine; decide), fun t nt => ?_⟩
    have q := q _ (same_upd (o := .tup [.ty "list", .ty "tuple"]) nt)
    have hv := hv.same (same_upd (o := .tup [.ty "list", .ty "tuple"]) nt)
    cases hd : d.parts with
    | none =>
      obtain ⟨tv, h1, h2⟩ := hv.noSeq (K := K) hd
      refine ⟨_, t, _, _, _, false, rfl, upd_same, .cons (.ty "list") (.cons (.ty "tuple") .nil), h1, h2, false, rfl, iteF ?_⟩
      rw [show d.couple = false by unfold Dat.couple; rw [hd]] at q
      exact q
    | some l =>
      obtain ⟨a, xs, rfl, hx, hp⟩ := hv.seq hd
      have ll : xs.length = l.length := Paired.len hp
      have eb : decide (V.int (xs.length : Int) = V.int 2) = d.couple := by
        unfold Dat.couple
        rw [hd]
        show _ = decide (l.length = 2)
        rw [← ll]
        exact decide_eq_decide.mpr ⟨fun z => by have := V.int.inj z; omega, fun z => by rw [z]; rfl⟩
      rw [← eb] at q
      rcases hx with hx | hx
      · exact ⟨_, t, _, _, _, true, rfl, upd_same, .cons (.ty "list") (.cons (.ty "tuple") .nil), .base (.lst hx), kit_lst, true, rfl, iteT ⟨_, rfl, _, _, rfl, .inl (.of hx), rfl, q⟩⟩
      · exact ⟨_, t, _, _, _, true, rfl, upd_same, .cons (.ty "list") (.cons (.ty "tuple") .nil), .base (.tup hx), kit_tup, true, rfl, iteT ⟨_, rfl, _, _, rfl, .inr (.of hx), rfl, q⟩⟩
end
end UP

set_option Elab.async false
set_option linter.all false
set_option maxRecDepth 100000
set_option maxHeartbeats 4000000
namespace UP
open PySem PySem.Spec PyProof.Rows L2 HT
/-! ### t[::-1], t a pair -/
section
variable {prog : Program} {w : World} {A : Around} {E : Value → Shared → Prop} {s : Shared}
theorem sliceApplied_rev {sl : Addr} {vl vu vs : Value} {Q : Int × Int × Nat → Shared → Prop} (hs : s.heap.IsSliceOf sl vl vu vs) (pl : IsPart vl none) (pu : IsPart vu none) (ps : IsPart vs (some (-1)))
    (h : Q (1, -1, 2) s) : wpAny (model prog w) A (Builtin.Slice.sliceApplied (.ref sl) (pure ((2 : Nat) : Int))) Q E s := by
  obtain ⟨os, hos, hcs, hds⟩ := id hs
  unfold Builtin.Slice.sliceApplied Builtin.Slice.sliceFields
  refine wpAny_bind (wpAny_bind (wpAny_field hos hds (x := vl) rfl (wpAny_bind (wpAny_field hos hds (x := vu) rfl (wpAny_bind (wpAny_field hos hds (x := vs) rfl (wpAny_pure ?_)))))))
  refine wpAny_bind (slicePart_ ps ?_)
  show wpAny _ _ (if ((-1 : Int) == 0) = true then _ else _) _ _ s
  rw [if_neg (by decide)]
  refine wpAny_bind (slicePart_ pl (wpAny_bind (slicePart_ pu (wpAny_bind (wpAny_pure ?_)))))
  exact wpAny_pure h
theorem getItem_tuple_rev {t sl : Addr} {x y : Value} {vl vu vs : Value} {Q : Value → Shared → Prop} (ht : IsTup s.heap t [x, y].toArray) (hs : s.heap.IsSliceOf sl vl vu vs) (pl : IsPart vl none) (pu : IsPart vu none) (ps : IsPart vs (some (-1)))
    (h : Q (.ref s.heap.objs.size) { s with heap := s.heap.push { cls := .type "tuple", data := .seq [y, x].toArray } }) : wpAny (model prog w) A (getItem (.ref t) (.ref sl)) Q E s := by
  have hdrop : sizeOk (.seq [y, x].toArray) := by
    show 2 ≤ sizeLine
    decide
  obtain ⟨os, hos, hcs, hds⟩ := id hs
  have hTs : s.TypeIs (.ref sl) "slice" := ⟨os, hos, hcs⟩
  unfold getItem
  try with_reducible refine wpAny_holding ?_
  first | refine wpAny_bind (wpAny_pure ?_) | skip
  refine wpAny_bind (wpAny_sequenceKey ht.typeIs (by decide) ?_)
  refine wpAny_bind (wpAny_callSpecial?_slot (name := Str.ofString "__getitem__") ht.typeIs PyProof.Rows.slot_tuple_getitem
    (wpAny_call_entry PyProof.Rows.slot_tuple_getitem ht.typeIs entry_tuple_getitem ?_ (args_tuple_getitem _ _)))
  show wpAny _ _ (Builtin.Tuple.tupleItemsOf (.ref t) >>= _) _ _ s
  refine wpAny_bind (tupleItemsOf_ ht ?_)
  refine wpAny_bind (wpAny_typeOf hTs ?_)
  rw [if_pos (by decide)]
  refine wpAny_bind (sliceApplied_rev hs pl pu ps ?_)
  have hno : ¬ (((1 : Int) == 0 && (-1 : Int) == 1 && (2 : Nat) == 2) = true) := by decide
  show wpAny _ _ (if ((1 : Int) == 0 && (-1 : Int) == 1 && (2 : Nat) == 2) = true then _ else _) _ _ s
  rw [if_neg hno]
  first
    | exact wpAny_bind (m := Builtin.Tuple.tupleExact _) (wpAny_newObj_type (wpAny_pure ⟨_, rfl, wpAny_pure h⟩) hdrop)
    | exact wpAny_bind (m := Builtin.Tuple.tupleExact _) (wpAny_newObj_type (wpAny_bind (wpAny_pure (wpAny_pure ⟨_, rfl, wpAny_pure h⟩))) hdrop)
    | exact wpAny_bind (wpAny_bind (m := Builtin.Tuple.tupleExact _) (wpAny_newObj_type (wpAny_pure (wpAny_pure ⟨_, rfl, wpAny_pure h⟩)) hdrop))
    | exact wpAny_bind (wpAny_bind (m := Builtin.Tuple.tupleExact _) (wpAny_newObj_type (wpAny_pure ⟨_, rfl, wpAny_pure h⟩) hdrop))
end
section
variable {X : Cx}
def tRevT (K : PySem.W.Frag) (te : TE) : TE := fun σ H Q => te σ H fun x H1 => ∃ a u v, x = .ref a ∧ SqT K H1 a [u, v] ∧ ∀ p, H1 p = none → Q (.ref p) (upd H1 p (.tup [v, u]))
theorem pe_revT {e : Expr} {te : TE} {k : Nat} {p1 p2 p3 pos : Pos} {K : PySem.W.Frag} (hK : X.K = K) (he : PE X e te) : PE X (.Subscript e (.Slice none none (some (.UnaryOp .USub (.Constant (.int 1) k p1) p2)) p3) pos) (tRevT K te) := by
  subst hK
  refine ⟨fun pins s σ H Q I h => ?_⟩
  refine Subscript_ (thn (he.run pins s σ H _ I h) fun v s1 ⟨x, H1, I1, r1, q1⟩ => ?_)
  obtain ⟨a, x1, x2, ex, hx, q⟩ := q1
  subst ex
  cases r1
  have hst : PO X (some (.UnaryOp .USub (.Constant (.int 1) k p1) p2)) (tPart (tUn (rU fun i => .int (-i)) (tC (.int 1)))) := po_some (pe_un un_neg pe_int)
  refine wpAny_Slice (thn (po_none.run pins s1 σ H1 (fun o H2 => o = none ∧ H2 = H1) I1 ⟨rfl, rfl⟩) fun vl s2 ⟨l, H2, I2, pl, el, e2⟩ => ?_)
  subst el e2
  refine thn (po_none.run pins s2 σ H2 (fun o H3 => o = none ∧ H3 = H2) I2 ⟨rfl, rfl⟩) fun vu s3 ⟨u, H3, I3, pu, eu, e3⟩ => ?_
  subst eu e3
  refine thn (hst.run pins s3 σ H3 (fun o H4 => o = some (-1) ∧ H4 = H3) I3 ⟨1, rfl, -1, rfl, rfl, rfl⟩) fun vs s4 ⟨o, H4, I4, ps, eo, e4⟩ => ?_
  subst eo e4
  have I5 : Inv X pins σ H4 { s4 with heap := s4.heap.push { cls := .type "slice", data := .fields #[vl, vu, vs] } } := I4.kept (t' := s4.toks) fun b ob q => Heap.get?_push_of_some _ q
  obtain ⟨its, r, ht, hz⟩ := I5.tuple hx
  cases r with
  | @cons _ u1 _ _ ru1 r =>
    cases r with
    | @cons _ u2 _ _ ru2 r =>
      cases r
      show wpAny (model X.prog X.w) X.A (subscriptTail e (.Slice none none (some (.UnaryOp .USub (.Constant (.int 1) k p1) p2)) p3) (.ref a) (.ref s4.heap.objs.size)) (EP X pins σ Q) X.xe { s4 with heap := s4.heap.push { cls := .type "slice", data := .fields #[vl, vu, vs] } }
      refine tail_any (ops := [.ref a, .ref s4.heap.objs.size]) ht.typeIs (PyProof.Rows.slot_tuple_getitem.lookup) ?_ (by with_unfolding_all rfl)
      refine getItem_tuple_rev ht (Heap.IsSliceOf.new _ vl vu vs) pl pu ps ?_
      refine ⟨.ref _, _, I5.laid (t' := s4.toks) (o := .tup [x2, x1]) (fun b ob q => Heap.get?_push_of_some _ q) (Nat.le_refl _) ?_, rfl, q _ (I5.hok.fresh (Nat.le_refl _))⟩
      exact ⟨by show 2 ≤ sizeLine; decide, _, .cons ru2 (.cons ru1 .nil), IsTup.new _ _⟩
end
end UP

set_option Elab.async false
set_option linter.all false
set_option maxRecDepth 100000
set_option maxHeartbeats 4000000
namespace UP
open PySem PySem.Spec PyProof.Rows L2
/-! ### written values -/
def Lit (σ : L2.St) (H0 : Hp) (t : TE) (d : Dat) : Prop := ∀ H (Q : VK), Same H0 H → (∀ H' v, Same H H' → Rp H' v d → Q v H') → t σ H Q
def Lits (σ : L2.St) (H0 : Hp) (t : TA) (ds : List Dat) : Prop := ∀ H (Q : List V → Hp → Prop), Same H0 H → (∀ H' vs, Same H H' → Paired (Rp H') vs ds → Q vs H') → t σ H Q
section
variable {σ : L2.St} {H0 : Hp}
theorem Lit.go {H : Hp} {t : TE} {d : Dat} {Q : VK} (h : Lit σ H t d) (q : ∀ H' v, Same H H' → Rp H' v d → Q v H') : t σ H Q := h H Q (Same.refl _) q
theorem lit_non : Lit σ H0 (tC .non) .non := fun H Q _ q => q H _ (Same.refl _) .non
theorem lit_int {n : Int} : Lit σ H0 (tC (.int n)) (.int n) := fun H Q _ q => q H _ (Same.refl _) (.int n)
theorem lit_bl {b : Bool} : Lit σ H0 (tC (.bl b)) (.bl b) := fun H Q _ q => q H _ (Same.refl _) (.bl b)
theorem lit_str {z : Str} : Lit σ H0 (tC (.str z)) (.str z) := fun H Q _ q => q H _ (Same.refl _) (.str z)
theorem lit_dic : Lit σ H0 tDNewK .dic := fun H Q _ q p np => q _ _ (same_upd np) (.dic upd_same)
theorem lit_var {i : Nat} {v : V} {d : Dat} (e : σ[i]? = some (some v)) (h : Rp H0 v d) : Lit σ H0 (tVar i) d := fun H Q s q => ⟨v, e, q H v (Same.refl _) (h.same s)⟩
theorem lit_val {t : TE} {v : V} {d : Dat} (h : ∀ H (Q : VK), Q v H → t σ H Q) (r : ∀ H, Rp H v d) : Lit σ H0 t d := fun H Q _ q => h H Q (q H v (Same.refl _) (r H))
theorem lits_nil : Lits σ H0 tNil [] := fun H Q _ q => q H [] (Same.refl _) .nil
theorem lits_cons {t : TE} {ts : TA} {d : Dat} {ds : List Dat} (h1 : Lit σ H0 t d) (h2 : Lits σ H0 ts ds) : Lits σ H0 (tCons t ts) (d :: ds) := fun H Q s q => h1 H _ s fun H1 v s1 r1 => h2 H1 _ (s.trans s1) fun H2 vs s2 r2 => q H2 (v :: vs) (s1.trans s2) (.cons (r1.same s2) r2)
theorem rps_same {H H' : Hp} {xs : List V} {ds : List Dat} (s : Same H H') (h : Paired (Rp H) xs ds) : Paired (Rp H') xs ds := Paired.imp (fun _ _ => Rp.same s) h
theorem lit_lst {ts : TA} {ds : List Dat} (h : Lits σ H0 ts ds) (l : ds.length ≤ 1000) : Lit σ H0 (tLst ts) (.lst ds) := fun H Q s q => h H _ s fun H1 vs s1 r => ⟨by rw [Paired.len r]; exact smallE (by omega), fun p np => q _ _ (s1.trans (same_upd np)) (.lst upd_same (rps_same (same_upd np) r))⟩
theorem lit_tup {ts : TA} {ds : List Dat} (h : Lits σ H0 ts ds) (l : ds.length ≤ 1000) : Lit σ H0 (tTup ts) (.tup ds) := fun H Q s q => h H _ s fun H1 vs s1 r => ⟨by rw [Paired.len r]; exact smallE (by omega), fun p np => q _ _ (s1.trans (same_upd np)) (.tup upd_same (rps_same (same_upd np) r))⟩
theorem lit_cat {t u : TE} {a b : List Dat} (h1 : Lit σ H0 t (.lst a)) (h2 : Lit σ H0 u (.lst b)) (l : a.length + b.length ≤ 1000) : Lit σ H0 (tOp rCat t u) (.lst (a ++ b)) := fun H Q s q => h1 H _ s fun H1 v s1 r1 => h2 H1 _ (s.trans s1) fun H2 w s2 r2 => by
  cases r1.same s2 with
  | lst e1 p1 =>
    cases r2 with
    | lst e2 p2 =>
      refine ⟨_, _, _, _, rfl, rfl, e1, e2, ?_, fun p np => q _ _ (s1.trans (s2.trans (same_upd np))) (.lst upd_same (rps_same (same_upd np) (Paired.app p1 p2)))⟩
      rw [Paired.len p1, Paired.len p2]
      exact smallE (by omega)
theorem rep_pair {α β : Type} {F : α → β → Prop} {xs : List α} {ys : List β} (h : Paired F xs ys) : ∀ n : Nat, Paired F (List.replicate n xs).flatten (List.replicate n ys).flatten
  | 0 => .nil
  | n + 1 => by
    rw [List.replicate_succ, List.replicate_succ, List.flatten_cons, List.flatten_cons]
    exact Paired.app h (rep_pair h n)
theorem lit_rep {t : TE} {a : List Dat} {k : Int} (h1 : Lit σ H0 t (.lst a)) (k0 : 0 ≤ k) (k1 : k ≤ 1000) (l : a.length * k.toNat ≤ 1000) : Lit σ H0 (tOp rRep t (tC (.int k))) (.lst (List.replicate k.toNat a).flatten) := fun H Q s q => h1 H _ s fun H1 v s1 r1 => by
  cases r1 with
  | lst e1 p1 =>
    refine ⟨_, k, _, rfl, rfl, e1, by omega, by omega, ?_, fun p np => q _ _ (s1.trans (same_upd np)) (.lst upd_same (rps_same (same_upd np) (rep_pair p1 _)))⟩
    rw [Paired.len p1]
    exact smallE (by omega)
end
/-- an index into a written list -/
theorem rp_at {H : Hp} {v : V} {ds : List Dat} {i : Int} (h : Rp H v (.lst ds)) (i0 : 0 ≤ i) (i1 : i.toNat < ds.length) : ∃ a xs x, v = .ref a ∧ H a = some (.lst xs) ∧ atI xs i = some x ∧ Rp H x ds[i.toNat] := by
  cases h with
  | lst e p =>
    obtain ⟨x, ex, hx⟩ := Paired.at' p (List.getElem?_eq_getElem i1)
    exact ⟨_, _, x, rfl, e, atI_of i0 ex, hx⟩
theorem lit_set {t : TE} {d : Dat} {i : Nat} {D : Ends} {rest : TS} {σ : L2.St} {H : Hp} (h : Lit σ H t d) (q : ∀ H' v, Same H H' → Rp H' v d → rest D (σ.set i (some v)) H') : tSeq (tAsg t (gName i)) rest D σ H := h H _ (Same.refl _) q
theorem lit_retIx {K : PySem.W.Frag} {t u : TE} {ds : List Dat} {D : Ends} {σ : L2.St} {H : Hp} (h : Lit σ H t (.lst ds)) (q : ∀ H' v, Same H H' → Rp H' v (.lst ds) → u σ H' (fun y H2 => rIxL K v y H2 D.rt)) : tRet (tOp (rIxL K) t u) D σ H := h H _ (Same.refl _) q
/-! ### the spring is none of these values -/
def Dat.three : List Dat → Bool
  | [.int _, .int _, .int _] => true
  | _ => false
mutual
def Dat.calm : Dat → Bool
  | .lst l => (!Dat.three l) && Dat.calms l
  | .tup l => Dat.calms l
  | _ => true
def Dat.calms : List Dat → Bool
  | [] => true
  | x :: t => x.calm && Dat.calms t
end
theorem three_ints {H : Hp} {a b c : Int} {l : List Dat} (h : Paired (Rp H) [.int a, .int b, .int c] l) : l = [.int a, .int b, .int c] := by
  cases h with
  | cons h1 h =>
    cases h1
    cases h with
    | cons h2 h =>
      cases h2
      cases h with
      | cons h3 h =>
        cases h3
        cases h
        rfl
theorem Rp.butS {sp : Addr} {H H' : Hp} (z : Spr H sp) (b : But sp H H') {v : V} {d : Dat} (h : Rp H v d) : d.calm = true → Rp H' v d := by
  obtain ⟨x, y, n, hs, _⟩ := z
  refine Rp.rec (motive_1 := fun v d _ => d.calm = true → Rp H' v d) (motive_2 := fun xs l _ => Dat.calms l = true → Paired (Rp H') xs l) (fun _ => .non) (fun b _ => .bl b) (fun n _ => .int n) (fun z _ => .str z) ?_ ?_ ?_ (fun _ => .nil) ?_ h
  · intro a e _
    exact .dic (b _ _ (ne_of e hs (by intro q; cases q)) e)
  · intro a xs l e p ih c
    rw [Dat.calm, Bool.and_eq_true] at c
    refine .lst (b _ _ (fun q => ?_) e) (ih c.2)
    rw [q, hs] at e
    have e := HO.lst.inj (Option.some.inj e)
    subst e
    rw [three_ints p] at c
    exact absurd c.1 (by intro z; cases z)
  · intro a xs l e p ih c
    rw [Dat.calm] at c
    exact .tup (b _ _ (ne_of e hs (by intro q; cases q)) e) (ih c)
  · intro x y xs ys _ _ h1 h2 c
    rw [Dat.calms, Bool.and_eq_true] at c
    exact .cons (h1 c.1) (h2 c.2)
end UP

set_option Elab.async false
set_option linter.all false
set_option maxRecDepth 100000
set_option maxHeartbeats 4000000
namespace UP
open PySem PySem.Spec PyProof.Rows L2
/-! ### repr of values that hold an empty dict -/
mutual
def Dat.py : Dat → PyData
  | .non => .none
  | .bl b => .bool b
  | .int n => .int n
  | .str z => .str z
  | .dic => .dict []
  | .lst l => .list (Dat.pys l)
  | .tup l => .tuple (Dat.pys l)
def Dat.pys : List Dat → List PyData
  | [] => []
  | x :: t => x.py :: Dat.pys t
end
def RpK (prog : Program) (w : World) (h : Heap) (u : Value) (d : PyData) : Prop :=
  (∃ as, Reads h u d as) ∧ (d.showable = true → d.shown.length ≤ sizeLine → ∃ bs, ReadAtMost h d.depth bs ∧ ReprK prog w bs h d.depth u d.shown)
def RpKs (prog : Program) (w : World) (h : Heap) (us : List Value) (ds : List PyData) : Prop :=
  (∃ as, ReadsAll h us ds as) ∧ (PyData.showableAll ds = true → (∀ t ∈ PyData.shownAll ds, t.length ≤ sizeLine) → ∃ bs, ReadAtMost h (PyData.depthAll ds) bs ∧ ReprAllK prog w bs h (PyData.depthAll ds) us (PyData.shownAll ds))
theorem dic_reads {X : Cx} {pins : List (Addr × Obj)} {σ : L2.St} {H : Hp} {s : Shared} {a : Addr} (I : Inv X pins σ H s) (e : H a = some (.dK [])) : ∃ o n, s.heap.get? a = some o ∧ o.cls = .type "dict" ∧ o.data = .dict #[] n ∧ (a == sysModules) = false := by
  obtain ⟨_, hs, vs, kv, o, es, ep, ho, ex, hd, _, hp, _⟩ := dk_of I.hok e
  cases kv
  obtain ⟨l⟩ := es
  have hp : Pairs (mixKind X.prog X.w) l [] := hp
  cases l with
  | nil => exact ⟨o, ep, ho, ex.1, hd, hs⟩
  | cons x t => cases hp
theorem RpKs.cons {prog : Program} {w : World} {h : Heap} {u : Value} {us : List Value} {d : PyData} {ds : List PyData} (h1 : RpK prog w h u d) (h2 : RpKs prog w h us ds) : RpKs prog w h (u :: us) (d :: ds) := by
  obtain ⟨⟨as, r⟩, k1⟩ := h1
  obtain ⟨⟨bs, rs⟩, k2⟩ := h2
  refine ⟨⟨_, .cons r rs⟩, fun hs hz => ?_⟩
  have hs' : d.showable = true ∧ PyData.showableAll ds = true := by simpa [PyData.showableAll] using hs
  obtain ⟨b1, hb1, k1⟩ := k1 hs'.1 (hz _ (by simp only [PyData.shownAll]; exact List.mem_cons_self ..))
  obtain ⟨b2, hb2, k2⟩ := k2 hs'.2 (fun t ht => hz t (by simp only [PyData.shownAll]; exact List.mem_cons_of_mem _ ht))
  refine ⟨b1 ++ b2, ?_, ?_⟩
  · simp only [PyData.depthAll]
    exact (hb1.mono (Nat.le_max_left _ _)).append (hb2.mono (Nat.le_max_right _ _))
  · simp only [PyData.depthAll, PyData.shownAll]
    exact .cons ((k1.more fun b hb => List.mem_append_left _ hb).level_le (Nat.le_max_left _ _)) (k2.more_le (fun b hb => List.mem_append_right _ hb) (Nat.le_max_right _ _))
theorem RpK.list {prog : Program} {w : World} {h : Heap} {a : Addr} {o : Obj} {its : List Value} {n : Nat} {ds : List PyData} (h1 : h.get? a = some o) (h2 : o.cls = .type "list") (h3 : o.data = .seq its.toArray n) (k : RpKs prog w h its ds) : RpK prog w h (.ref a) (.list ds) := by
  obtain ⟨⟨as, h4⟩, k⟩ := k
  have r : Reads h (.ref a) (.list ds) _ := .list h1 h2 h3 h4
  refine ⟨⟨_, r⟩, fun hs hz => ?_⟩
  have hz' : (listText (PyData.shownAll ds)).length ≤ sizeLine := by simpa only [PyData.shown] using hz
  obtain ⟨bs, hb, hk⟩ := k (by simpa [PyData.showable] using hs) (fun t ht => Nat.le_trans (listText_mem_le ht) hz')
  have hna : a ∉ bs := not_mem_of_deeper r (by simp only [PyData.depth]; omega) hb
  refine ⟨a :: bs, ReadAtMost.cons r (by simp only [PyData.depth]; omega) hb, ?_⟩
  simp only [PyData.depth, PyData.shown]
  cases its with
  | nil =>
    have h4' : ReadsAll h [] ds _ := h4
    cases h4'
    simp only [PyData.shownAll, listText_nil]
    exact ReprK.listEmpty h1 h2 h3
  | cons x l => exact ReprK.list h1 h2 h3 hna (by simpa using hk.length_eq) (fun i y e => hk.item i y (by simpa using e))
theorem RpK.tuple {prog : Program} {w : World} {h : Heap} {a : Addr} {o : Obj} {its : List Value} {n : Nat} {ds : List PyData} (h1 : h.get? a = some o) (h2 : o.cls = .type "tuple") (h3 : o.data = .seq its.toArray n) (k : RpKs prog w h its ds) : RpK prog w h (.ref a) (.tuple ds) := by
  obtain ⟨⟨as, h4⟩, k⟩ := k
  have r : Reads h (.ref a) (.tuple ds) _ := .tuple h1 h2 h3 h4
  refine ⟨⟨_, r⟩, fun hs hz => ?_⟩
  have hz' : (tupleText (PyData.shownAll ds)).length ≤ sizeLine := by simpa only [PyData.shown] using hz
  obtain ⟨bs, hb, hk⟩ := k (by simpa [PyData.showable] using hs) (fun t ht => Nat.le_trans (tupleText_mem_le ht) hz')
  have hna : a ∉ bs := not_mem_of_deeper r (by simp only [PyData.depth]; omega) hb
  refine ⟨a :: bs, ReadAtMost.cons r (by simp only [PyData.depth]; omega) hb, ?_⟩
  simp only [PyData.depth, PyData.shown]
  exact ReprK.tuple h1 h2 h3 hna hk
theorem RpK.dict {prog : Program} {w : World} {h : Heap} {a : Addr} {o : Obj} {n : Nat} (h1 : h.get? a = some o) (h2 : o.cls = .type "dict") (h3 : o.data = .dict #[] n) (hs : (a == sysModules) = false) : RpK prog w h (.ref a) (.dict []) := by
  have r : Reads h (.ref a) (.dict []) _ := .dict h1 h2 h3 .nil .nil
  refine ⟨⟨_, r⟩, fun _ _ => ⟨[a], ?_, ?_⟩⟩
  · intro b hb
    rw [List.mem_singleton.mp hb]
    exact ⟨_, _, r, Nat.le_refl _⟩
  · exact ReprK.dict h1 h2 h3 hs (fun z => by cases z) .nil
theorem Rp.reprK {X : Cx} {pins : List (Addr × Obj)} {σ : L2.St} {H : Hp} {s : Shared} (I : Inv X pins σ H s) {v : V} {d : Dat} (h : Rp H v d) : ∀ u, RelV v u → RpK X.prog X.w s.heap u d.py := by
  refine Rp.rec (motive_1 := fun v d _ => ∀ u, RelV v u → RpK X.prog X.w s.heap u d.py) (motive_2 := fun xs l _ => ∀ us, Vals xs us → RpKs X.prog X.w s.heap us (Dat.pys l)) ?_ ?_ ?_ ?_ ?_ ?_ ?_ ?_ ?_ h
  · intro u r
    cases r
    exact ⟨⟨_, .none⟩, fun hs hz => ReprK.of_reads .none hs (fun z => by cases z) hz⟩
  · intro b u r
    cases r
    exact ⟨⟨_, .bool b⟩, fun hs hz => ReprK.of_reads (.bool b) hs (fun z => by cases z) hz⟩
  · intro n u r
    obtain ⟨t, rfl⟩ := r
    exact ⟨⟨_, .int n t⟩, fun hs hz => ReprK.of_reads (.int n t) hs (fun z => by cases z) hz⟩
  · intro n u r
    obtain ⟨t, rfl⟩ := r
    exact ⟨⟨_, .str n t⟩, fun hs hz => ReprK.of_reads (.str n t) hs (fun z => by cases z) hz⟩
  · intro a e u r
    cases r
    obtain ⟨o, n, h1, h2, h3, h4⟩ := dic_reads I e
    exact RpK.dict h1 h2 h3 h4
  · intro a xs l e _ ih u r
    cases r
    obtain ⟨its, rv, ⟨o, n, ho, hc, _, hd⟩, _⟩ := I.list (SqL.of e)
    exact RpK.list ho hc hd (ih its rv)
  · intro a xs l e _ ih u r
    cases r
    obtain ⟨its, rv, ⟨o, ho, hc, n, hd⟩, _⟩ := I.tuple (SqT.of e)
    exact RpK.tuple ho hc hd (ih its rv)
  · intro us r
    cases r
    exact ⟨⟨_, .nil⟩, fun _ _ => ⟨[], (fun _ h => nomatch h), by simp only [Dat.pys, PyData.shownAll]; exact .nil⟩⟩
  · intro x y xs ys _ _ h1 h2 us r
    cases r with
    | cons r1 r2 => exact RpKs.cons (h1 _ r1) (h2 _ r2)
/-- repr(xs), xs a list or a tuple of such values -/
def rReprR : List V → Hp → VK → Prop := fun xs H Q => ∃ (a : Addr) (d : Dat), xs = [.ref a] ∧ Rp H (.ref a) d ∧ d.py.showable = true ∧ d.py.depth ≤ 64 ∧ d.py.shown.length ≤ sizeLine ∧ Q (.str d.py.shown) H
theorem call_reprR {X : Cx} (hg : X.A.guards = some []) (hu : X.A.units + 70 < cLine) : CallR X (.builtin "repr") rReprR := by
  intro pins s σ H xs us Q I r h
  obtain ⟨a, d, rfl, hr, sh, dp, sz, q⟩ := h
  obtain ⟨u, rfl, ru⟩ := vals1 r
  cases (show u = Value.ref a from ru)
  have fin : ∀ h' u tk, (∀ b o, s.heap.get? b = some o → h'.get? b = some o) → EP X pins σ Q (.str d.py.shown u) { s with heap := h', toks := tk } := fun h' u tk hk => ⟨.str d.py.shown, H, I.kept (t' := tk) hk, ⟨u, rfl⟩, q⟩
  cases hr with
  | dic e =>
    obtain ⟨o, n, h1, h2, h3, h4⟩ := dic_reads I e
    have rd : Reads s.heap (.ref a) (.dict []) _ := .dict h1 h2 h3 .nil .nil
    exact repr_of_reads' rd sh (fun _ z => by
      have z : sysModules ∈ [a] := z
      rw [List.mem_singleton.mp z] at h4
      simp at h4) hg (by show X.A.units + ((PyData.dict []).depth + 1) < cLine; have : (PyData.dict []).depth ≤ 64 := dp; omega) (fun _ _ e => e) fin sz
  | @lst _ xs l e hp =>
    obtain ⟨its, rv, ⟨o, n, ho, hc, _, hd⟩, _⟩ := I.list (SqL.of e)
    have all : ∀ {xs : List V} {l : List Dat}, Paired (Rp H) xs l → ∀ us, Vals xs us → RpKs X.prog X.w s.heap us (Dat.pys l) := by
      intro xs l hp
      induction hp with
      | nil =>
        intro us r
        cases r
        exact ⟨⟨_, .nil⟩, fun _ _ => ⟨[], (fun _ h => nomatch h), by simp only [Dat.pys, PyData.shownAll]; exact .nil⟩⟩
      | cons h1 _ ih =>
        intro us r
        cases r with
        | cons r1 r2 => exact RpKs.cons (h1.reprK I _ r1) (ih _ r2)
    have k := all hp its rv
    obtain ⟨⟨as, h4⟩, k⟩ := k
    have sz' : (listText (PyData.shownAll (Dat.pys l))).length ≤ sizeLine := by simpa only [Dat.py, PyData.shown] using sz
    obtain ⟨bs, hb, hk⟩ := k (by simpa [Dat.py, PyData.showable] using sh) (fun t ht => Nat.le_trans (listText_mem_le ht) sz')
    have r : Reads s.heap (.ref a) (.list (Dat.pys l)) _ := .list ho hc hd h4
    have hna : a ∉ bs := not_mem_of_deeper r (by simp only [PyData.depth]; omega) hb
    have dp' : PyData.depthAll (Dat.pys l) + 1 ≤ 64 := by simpa only [Dat.py, PyData.depth] using dp
    simp only [Dat.py, PyData.shown] at fin
    refine call_repr_slot (by omega) ⟨o, ho, hc⟩ F.slot_list_repr.toG ?_
    cases its with
    | nil =>
      have h4' : ReadsAll s.heap [] (Dat.pys l) _ := h4
      cases hl : Dat.pys l with
      | nil =>
        rw [hl] at fin
        simp only [PyData.shownAll, listText_nil] at fin
        exact call_list_repr_empty ⟨o, ho, hc⟩ ho hd ⟨_, _, rfl, fin s.heap _ _ fun _ _ e => e⟩
      | cons x t =>
        rw [hl] at h4'
        cases h4'
    | cons x t =>
      exact call_list_reprK ho hc hd hna (by simpa using hk.length_eq) (fun i y e => hk.item i y (by simpa using e)) (g := []) hg (fun b _ => Clear.nil b) (by show X.A.units + 1 + _ < cLine; omega) (fun _ _ e => e) (fun h' u tk hk => ⟨_, _, rfl, fin h' u tk hk⟩) sz'
  | @tup _ xs l e hp =>
    obtain ⟨its, rv, ⟨o, ho, hc, n, hd⟩, _⟩ := I.tuple (SqT.of e)
    have all : ∀ {xs : List V} {l : List Dat}, Paired (Rp H) xs l → ∀ us, Vals xs us → RpKs X.prog X.w s.heap us (Dat.pys l) := by
      intro xs l hp
      induction hp with
      | nil =>
        intro us r
        cases r
        exact ⟨⟨_, .nil⟩, fun _ _ => ⟨[], (fun _ h => nomatch h), by simp only [Dat.pys, PyData.shownAll]; exact .nil⟩⟩
      | cons h1 _ ih =>
        intro us r
        cases r with
        | cons r1 r2 => exact RpKs.cons (h1.reprK I _ r1) (ih _ r2)
    have k := all hp its rv
    obtain ⟨⟨as, h4⟩, k⟩ := k
    have sz' : (tupleText (PyData.shownAll (Dat.pys l))).length ≤ sizeLine := by simpa only [Dat.py, PyData.shown] using sz
    obtain ⟨bs, hb, hk⟩ := k (by simpa [Dat.py, PyData.showable] using sh) (fun t ht => Nat.le_trans (tupleText_mem_le ht) sz')
    have r : Reads s.heap (.ref a) (.tuple (Dat.pys l)) _ := .tuple ho hc hd h4
    have hna : a ∉ bs := not_mem_of_deeper r (by simp only [PyData.depth]; omega) hb
    have dp' : PyData.depthAll (Dat.pys l) + 1 ≤ 64 := by simpa only [Dat.py, PyData.depth] using dp
    simp only [Dat.py, PyData.shown] at fin
    refine call_repr_slot (by omega) ⟨o, ho, hc⟩ F.slot_tuple_repr ?_
    exact call_tuple_reprK ho hc hd hna hk (g := []) hg (fun b _ => Clear.nil b) (by show X.A.units + 1 + _ < cLine; omega) (fun _ _ e => e) (fun h' u tk hk => ⟨_, _, rfl, fin h' u tk hk⟩) sz'
end UP

set_option Elab.async false
set_option linter.all false
set_option maxRecDepth 100000
set_option maxHeartbeats 4000000
set_option pp.maxSteps 600
namespace UP
open PySem PySem.Spec PyProof.Rows L2
/-! ### pairs among values of any form -/
theorem call_isiK {X : Cx} {K : PySem.W.Frag} (h : X.K = K) : CallR X (.builtin "isinstance") (rIsi K) := h ▸ call_isi
def Dat.prO (d : Dat) : Option Pr := match d.parts with
  | some [.int x, .int y] => some (x, y)
  | _ => none
def Dat.due (d : Dat) (ps : List Pr) : Bool := match d.parts with
  | some l => decide (l.map Dat.prO = ps.map some)
  | none => false
theorem map_some_inj : ∀ {a b : List Pr}, a.map some = b.map some → a = b
  | [], [], _ => rfl
  | [], _ :: _, h => by cases h
  | _ :: _, [], h => by cases h
  | x :: t, y :: u, h => by
    rw [List.map_cons, List.map_cons] at h
    have h := List.cons.inj h
    rw [Option.some.inj h.1, map_some_inj h.2]
theorem due_parts {d : Dat} {ps : List Pr} (h : d.due ps = true) : ∃ l, d.parts = some l ∧ l.map Dat.prO = ps.map some := by
  unfold Dat.due at h
  cases e : d.parts with
  | none => rw [e] at h; cases h
  | some l => rw [e] at h; exact ⟨l, rfl, of_decide_eq_true h⟩
theorem due_no {d : Dat} {ps : List Pr} (h : ∀ l, d.parts = some l → l.map Dat.prO ≠ ps.map some) : d.due ps = false := by
  cases e : d.due ps with
  | false => rfl
  | true =>
    obtain ⟨l, e1, e2⟩ := due_parts e
    exact absurd e2 (h l e1)
theorem prO_two {d x y : Dat} (hd : d.parts = some [x, y]) : d.prO.isSome = (x.isI && y.isI) := by
  unfold Dat.prO
  rw [hd]
  cases x <;> cases y <;> rfl
theorem couple_two {d : Dat} (h : d.couple = true) : ∃ x y, d.parts = some [x, y] := by
  unfold Dat.couple at h
  cases e : d.parts with
  | none => rw [e] at h; cases h
  | some l =>
    rw [e] at h
    have h : l.length = 2 := of_decide_eq_true h
    match l, h with
    | [x, y], _ => exact ⟨x, y, rfl⟩
theorem prO_parts {d : Dat} {p : Pr} (h : d.prO = some p) : d.parts = some [.int p.1, .int p.2] := by
  unfold Dat.prO at h
  cases e : d.parts with
  | none => rw [e] at h; cases h
  | some l =>
    rw [e] at h
    match l, h with
    | [.int x, .int y], h => cases h; rfl
theorem prO_not {d : Dat} (h : d.couple = false) : d.prO.isSome = false := by
  cases e : d.prO with
  | none => rfl
  | some p =>
    have e := prO_parts e
    unfold Dat.couple at h
    rw [e] at h
    cases h
theorem prO_at {H : Hp} {v : V} {d : Dat} {p : Pr} (h : Rp H v d) (e : d.prO = some p) : ∃ a, v = .ref a ∧ Sq2 H a [.int p.1, .int p.2] := by
  obtain ⟨a, xs, rfl, hx, hp⟩ := h.seq (prO_parts e)
  cases hp with
  | cons h1 hp =>
    cases hp with
    | cons h2 hp =>
      cases hp
      cases h1
      cases h2
      exact ⟨a, rfl, hx⟩
theorem ix2 {K : PySem.W.Frag} {H : Hp} {a : Addr} {xs : List V} {i : Int} {z : V} {Q : VK} (h : Sq2 H a xs) (e : atI xs i = some z) (q : Q z H) : rIx K (.ref a) (.int i) H Q :=
  h.elim (fun h => .inl ⟨a, xs, i, z, rfl, rfl, .of h, e, q⟩) (fun h => .inr (.inl ⟨a, xs, i, z, rfl, rfl, .of h, e, q⟩))
theorem all_mapD {α : Type} (l : List α) (f : α → Bool) : ((l.map f).all id) = l.all f := by
  induction l with
  | nil => rfl
  | cons x t ih => rw [List.map_cons, List.all_cons, List.all_cons, ih]; rfl
theorem all_some : ∀ {l : List Dat}, l.all (fun e => e.prO.isSome) = true → ∃ ps : List Pr, l.map Dat.prO = ps.map some
  | [], _ => ⟨[], rfl⟩
  | d :: t, h => by
    rw [List.all_cons, Bool.and_eq_true] at h
    obtain ⟨ps, e⟩ := all_some h.2
    cases e1 : d.prO with
    | none => rw [e1] at h; exact absurd h.1 (by intro z; cases z)
    | some p => exact ⟨p :: ps, by rw [List.map_cons, e1, e]; rfl⟩
theorem all_of : ∀ {l : List Dat} {ps : List Pr}, l.map Dat.prO = ps.map some → l.all (fun e => e.prO.isSome) = true
  | [], _, _ => rfl
  | d :: t, [], h => by cases h
  | d :: t, p :: ps, h => by
    rw [List.map_cons, List.map_cons] at h
    have h := List.cons.inj h
    rw [List.all_cons, h.1, all_of h.2]
    rfl
section
variable {P : Program} {w : World} {K : PySem.W.Frag} {mg : Str → Option Value} {base : Heap}
def spD_is_pair : Sp := fun vs H Q _ => ∃ (v : V) (d : Dat), vs = [v] ∧ Rp H v d ∧ ∀ H', Same H H' → Q (.bl d.prO.isSome) H'
theorem okD_is_pair (D : Df K mg "is_pair" s_is_pair) (G_is_couple : Has P w K mg base 1 "is_couple" ["value"] spD_is_couple) (G_is_whole : Has P w K mg base 1 "is_whole" ["value"] spD_is_whole) : Has P w K mg base 2 "is_pair" ["value"] spD_is_pair := by
  refine has_of D sc_is_pair (fun _ _ _ _ _ _ us hl => match us, hl with | [_], _ => rfl) (fun vs H Q E h => ?_) (fun f cdv A outer s H vs Q E hr h => ?_)
  · obtain ⟨v, r, rfl, _⟩ := h
    rfl
  · obtain ⟨v, d, rfl, hv, q⟩ := h
    refine ⟨_, (pss_one (ps_ret (pe_and (pe_callH G_is_couple (hr.mono (by omega)) (by rfl) (pa_cons (pv 0) pa_nil)) (pe_and (pe_callH G_is_whole (hr.mono (by omega)) (by rfl) (pa_cons (pe_ix ix_seq (pv 0) pe_int (fun _ _ => rfl)) pa_nil)) (pe_one (pe_callH G_is_whole (hr.mono (by omega)) (by rfl) (pa_cons (pe_ix ix_seq (pv 0) pe_int (fun _ _ => rfl)) pa_nil))))))), ?_⟩
    refine ⟨_, rfl, v, d, rfl, hv, fun H1 s1 => ⟨d.couple, rfl, ?_⟩⟩
    by_cases c : d.couple = true
    · obtain ⟨x, y, hd⟩ := couple_two c
      obtain ⟨a, xs, rfl, hx, hp⟩ := hv.seq hd
      refine giP c ?_
      have e := prO_two hd
      cases hp with
      | @cons u1 _ _ _ h1 hp =>
        cases hp with
        | @cons u2 _ _ _ h2 hp =>
          cases hp
          refine ⟨_, rfl, ix2 (hx.same s1) at0 ⟨u1, x, rfl, h1.same s1, x.isI, rfl, ?_⟩⟩
          by_cases cx : x.isI = true
          · refine giP cx ⟨_, rfl, ix2 (hx.same s1) at1 ⟨u2, y, rfl, h2.same s1, ?_⟩⟩
            have := q _ s1
            rw [e, cx, Bool.true_and] at this
            exact this
          · have cx : x.isI = false := by simpa using cx
            refine giN cx ?_
            have := q _ s1
            rw [e, cx, Bool.false_and] at this
            exact this
    · have c : d.couple = false := by simpa using c
      refine giN c ?_
      have := q _ s1
      rw [prO_not c] at this
      exact this
def spD_is_pairing : Sp := fun vs H Q _ => ∃ (av : V) (rs : List Run) (u : V) (d : Dat), vs = [av, u] ∧ RunsG H av rs ∧ SeqOk rs ∧ Rp H u d ∧ ∀ H', Same H H' → Q (.bl (decide (cntB (blR rs) ≤ 400) && d.due (flB (blR rs)))) H'
theorem okD_is_pairing (D : Df K mg "is_pairing" s_is_pairing) (T : Tx mg) (G_checked_runs : Has P w K mg base 5 "checked_runs" ["sequence"] sp_checked_runs) (G_blocks_of : Has P w K mg base 3 "blocks_of" ["runs"] sp_blocks_of) (G_pairs_in : Has P w K mg base 1 "pairs_in" ["blocks"] sp_pairs_in)
    (G_is_listed : Has P w K mg base 1 "is_listed" ["value", "most"] spD_is_listed) (G_is_pair : Has P w K mg base 2 "is_pair" ["value"] spD_is_pair) : Has P w K mg base 6 "is_pairing" ["sequence", "value"] spD_is_pairing := by
  refine has_of D sc_is_pairing (fun _ _ _ _ _ _ us hl => match us, hl with | [_, _], _ => rfl) (fun vs H Q E h => ?_) (fun f cdv A outer s H vs Q E hr h => ?_)
  · obtain ⟨v, r, _, _, rfl, _⟩ := h
    rfl
  · obtain ⟨av, rs, u, d, rfl, hR, ok, hV, q⟩ := h
    have pos : ∀ r ∈ rs, 1 ≤ r.2 := fun r hr => (ok.2.1 r hr).2.1
    obtain ⟨_, wb⟩ := whole_pairs pos ok.2.2
    have lb : (blR rs).length ≤ 160000 := by
      refine Nat.le_trans (boR_len rs none 0 [] []) ?_
      have h1 := ok.1
      have h2 := Nat.mul_le_mul h1 h1
      show ([] : List Blk).length + rs.length * (0 + rs.length) ≤ _
      rw [List.length_nil, Nat.zero_add, Nat.zero_add]
      omega
    have cf := cnt_fl _ wb
    refine ⟨_, (pss_cons (ps_set (i := 2) sc_is_pairing.nd rfl (by first | exact Or.inl rfl | exact Or.inr rfl) (pe_callH G_blocks_of (hr.mono (by omega)) (by rfl) (pa_cons (pe_callH G_checked_runs (hr.mono (by omega)) (by rfl) (pa_cons (pv 0) pa_nil)) pa_nil)))
    (pss_cons (ps_if (PW.pt (pw_or (pt_cmpR op_gt (pe_callH G_pairs_in (hr.mono (by omega)) (by rfl) (pa_cons (pv 2) pa_nil)) (pe_glI T.c_MAX_PAIRS (by rfl)) (nomark _)) (pw_or (pt_not (pt_val (pe_callH G_is_listed (hr.mono (by omega)) (by rfl) (pa_cons (pv 1) (pa_cons (pe_glI T.c_MAX_PAIRS (by rfl)) pa_nil))))) (pw_or1 (pt_not (pt_val (pe_callB (cr_all rfl) (by rfl) T.n_all (by decide +kernel) (pa_cons (pe_lc (own := [("pair", 8)]) rfl sc_is_pairing.nd (pi_seqV 1) (blkOk_by (N := ["sequence", "value", "blocks", "pairs", "at", "first", "second", "count", "pair"]) (sc := defScope s_is_pairing) (by decide +kernel)) (fun _ _ _ _ _ => (pg_name (i := 8) sc_is_pairing.nd rfl (by first | exact Or.inl rfl | exact Or.inr rfl))) (fun _ _ _ _ _ => pts_nil) (fun _ _ _ _ _ => (pe_callH G_is_pair (hr.mono (by omega)) (by rfl) (pa_cons (pv 8) pa_nil)))) pa_nil)))))))) (pss_one (ps_ret pe_bl)) pss_nil)
    (pss_cons (ps_setLc2 (i := 3) (own := [("first", 5), ("second", 6), ("count", 7), ("at", 4)]) (vs1 := [4]) rfl sc_is_pairing.nd rfl rfl (sw_true rfl rfl rfl (by decide +kernel)) (pi_list (pv 2)) (blkOk_by (N := ["sequence", "value", "blocks", "pairs", "at", "first", "second", "count", "pair"]) (sc := defScope s_is_pairing) (by decide +kernel)) (by decide) (fun _ _ _ _ _ => (pg_tupK (K := K) (n := 3) rfl rfl (pgs_cons (pg_name (i := 5) sc_is_pairing.nd rfl (by first | exact Or.inl rfl | exact Or.inr rfl)) (pgs_cons (pg_name (i := 6) sc_is_pairing.nd rfl (by first | exact Or.inl rfl | exact Or.inr rfl)) (pgs_cons (pg_name (i := 7) sc_is_pairing.nd rfl (by first | exact Or.inl rfl | exact Or.inr rfl)) pgs_nil))))) (fun _ _ _ _ _ => pts_nil) (fun _ _ _ _ _ => (pi_range1 (by rfl) T.n_range (pa_cons (pv 7) pa_nil))) (fun _ _ _ _ _ => (pg_name (i := 4) sc_is_pairing.nd rfl (by first | exact Or.inl rfl | exact Or.inr rfl))) (fun _ _ _ _ _ => pts_nil) (fun _ _ _ _ _ => (pe_tup (pa_cons (pe_op op_add (pv 5) (pv 4)) (pa_cons (pe_op op_add (pv 6) (pv 4)) pa_nil)))))
    (pss_one (ps_ret (pe_cmpR (op_eqD hr.units) (pe_lc (own := [("pair", 8)]) rfl sc_is_pairing.nd (pi_seqV 1) (blkOk_by (N := ["sequence", "value", "blocks", "pairs", "at", "first", "second", "count", "pair"]) (sc := defScope s_is_pairing) (by decide +kernel)) (fun _ _ _ _ _ => (pg_name (i := 8) sc_is_pairing.nd rfl (by first | exact Or.inl rfl | exact Or.inr rfl))) (fun _ _ _ _ _ => pts_nil) (fun _ _ _ _ _ => (pe_tup (pa_cons (pe_ix (ix_seqK (K := K) rfl) (pv 8) pe_int (fun _ _ => rfl)) (pa_cons (pe_ix (ix_seqK (K := K) rfl) (pv 8) pe_int (fun _ _ => rfl)) pa_nil))))) (pv 3) (nomark _))))))), ?_⟩
    refine ⟨_, rfl, av, rs, rfl, hR, ok, fun H1 p s1 np hp => ⟨p, rs, rfl, hp, ok.1, pos, ok.2.2, fun H2 p2 s2 n2 h2 => ?_⟩⟩
    generalize blR rs = B at *
    refine ⟨_, rfl, p2, B, rfl, h2, by omega, fun H3 s3 => ⟨_, _, rfl, rfl, _, rfl, ?_⟩⟩
    have sA := s1.trans (s2.trans s3)
    by_cases c : 400 < cntB B
    · refine iteP (decide_eq_true c) ?_
      have := q _ sA
      rw [decide_eq_false (by omega), Bool.false_and] at this
      exact this
    refine iteN (decide_eq_false c) ?_
    have no : ∀ {H'}, Same H3 H' → d.due (flB B) = false → Q (.bl false) H' := fun {H'} s e => by
      have := q _ (sA.trans s)
      rw [e, Bool.and_false] at this
      exact this
    refine ⟨_, rfl, u, d, 400, rfl, hV.same sA, fun H4 s4 => ⟨_, rfl, ?_⟩⟩
    by_cases cl4 : d.listed 400 = true
    case neg =>
      have cl4 : d.listed 400 = false := by simpa using cl4
      rw [cl4]
      refine iteP rfl (no s4 (due_no fun l e1 e2 => ?_))
      unfold Dat.listed at cl4
      rw [e1] at cl4
      have h1 : ¬ ((l.length : Int) ≤ 400) := of_decide_eq_false cl4
      have h2 := congrArg List.length e2
      rw [List.length_map, List.length_map] at h2
      omega
    rw [cl4]
    refine iteN rfl ?_
    obtain ⟨l, hd, l4⟩ : ∃ l, d.parts = some l ∧ l.length ≤ 400 := by
      unfold Dat.listed at cl4
      cases e : d.parts with
      | none => rw [e] at cl4; cases cl4
      | some l =>
        rw [e] at cl4
        have h1 : (l.length : Int) ≤ 400 := of_decide_eq_true cl4
        exact ⟨l, rfl, by omega⟩
    obtain ⟨a, ys, rfl, hy4, hyp⟩ := (hV.same (sA.trans s4)).seq hd
    have ly : ys.length = l.length := Paired.len hyp
    refine ⟨a, ys, rfl, hy4, fun J wk L nL => lc_wk wk (fun i H' => Same H4 H' ∧ H' L = some (.lst (((l.take i).map fun e => e.prO.isSome).map V.bl))) (fun i H' p => p.1) ⟨same_upd nL, upd_same⟩ (fun i x H5 ex hP => ?_) (fun H5 hP => ?_)⟩
    · obtain ⟨sm, hL⟩ := hP
      obtain ⟨r, er, hr1⟩ := Paired.at hyp ex
      have hi : i < ys.length := (List.getElem?_eq_some_iff.mp ex).1
      refine ⟨rfl, yesT ⟨_, rfl, x, r, rfl, hr1.same sm, fun H6 s6 => ⟨_, s6 _ _ hL, ?_, same_grow nL (sm.trans s6), ?_⟩⟩⟩
      · simp only [List.length_map, List.length_take]
        exact small (by omega)
      · rw [upd_same, take_snoc er, List.map_append, List.map_append]
        rfl
    obtain ⟨s5, hL⟩ := hP
    rw [ly, List.take_length] at hL
    refine ⟨L, _, rfl, .of hL, _, rfl, ?_⟩
    rw [all_mapD]
    by_cases ca : l.all (fun e => e.prO.isSome) = true
    case neg =>
      have ca : l.all (fun e => e.prO.isSome) = false := by simpa using ca
      rw [ca]
      refine iteP rfl (no (s4.trans s5) (due_no fun l' e1 e2 => ?_))
      rw [hd] at e1
      cases e1
      rw [all_of e2] at ca
      cases ca
    rw [ca]
    refine iteN rfl ?_
    obtain ⟨ps, eps⟩ := all_some ca
    have lps : l.length = ps.length := by
      have := congrArg List.length eps
      rw [List.length_map, List.length_map] at this
      exact this
    have s35 := s4.trans s5
    obtain ⟨xs, hx, hpr⟩ := (h2.same s3).same s35
    have lx : xs.length = B.length := Paired.len hpr
    -- the pairs
    refine ⟨_, rfl, p2, rfl, ⟨xs, .of hx⟩, fun M nM => ⟨fun i m H' => m = xs.length - i ∧ i ≤ xs.length ∧ Same H5 H' ∧ ∃ zs, H' M = some (.lst zs) ∧ Paired (PV H') zs (flB (B.take i)), ⟨_, rfl, Nat.zero_le _, same_upd nM, [], upd_same, .nil⟩, fun i m H' hW => ?_⟩⟩
    obtain ⟨rfl, hi, sm, zs, hM, hz⟩ := hW
    have cl : ∀ i, ((flB (B.take i)).length : Int) ≤ 400 := by
      intro i
      have e : flB B = flB (B.take i) ++ flB (B.drop i) := by rw [← flB_app, List.take_append_drop]
      have := congrArg List.length e
      rw [List.length_append] at this
      omega
    by_cases hlt : i < xs.length
    · obtain ⟨b, eb⟩ : ∃ b, B[i]? = some b := ⟨_, List.getElem?_eq_getElem (by omega)⟩
      obtain ⟨x, ex, hb⟩ := Paired.at' hpr eb
      have pb := wb b (List.mem_of_getElem? eb)
      have cb := cl (i + 1)
      rw [take_snoc eb, flB_snoc, List.length_append, flX_len] at cb
      refine .inr ⟨⟨xs, x, .of (sm _ _ hx), ex⟩, fun H' => Same H5 H' ∧ ∃ zs, H' M = some (.lst zs) ∧ Paired (PV H') zs (flB (B.take (i + 1))), fun H' z => ⟨xs.length - (i + 1), by omega, rfl, hlt, z⟩, fun y H6 hy6 => ?_⟩
      obtain ⟨rfl, hy6⟩ := hy6
      have ey := hy6 xs (.of (sm _ _ hx))
      rw [ex] at ey
      cases ey
      obtain ⟨t, rfl, ht⟩ := BV.same sm hb
      refine ⟨t, _, rfl, .of ht, rfl, _, _, rfl, _, _, rfl, _, _, rfl, rfl, rfl, yesT ?_⟩
      refine ⟨_, rfl, b.2.2, rfl, by omega, by omega, ?_⟩
      refine ⟨fun j k H' => k = b.2.2.toNat - j ∧ j ≤ b.2.2.toNat ∧ Same H5 H' ∧ ∃ zs, H' M = some (.lst zs) ∧ Paired (PV H') zs (flB (B.take i) ++ zpL (posL b.1 j) b.2.1), ⟨_, rfl, Nat.zero_le _, sm, zs, hM, ?_⟩, fun j k H' hW => ?_⟩
      · show Paired _ zs (flB (B.take i) ++ [])
        rw [List.append_nil]
        exact hz
      obtain ⟨rfl, hj, sm, zs, hM, hz⟩ := hW
      by_cases hlj : j < b.2.2.toNat
      · refine .inr ⟨hlj, fun H' => Same H5 H' ∧ ∃ zs, H' M = some (.lst zs) ∧ Paired (PV H') zs (flB (B.take i) ++ zpL (posL b.1 (j + 1)) b.2.1), fun H' z => ⟨_, by omega, rfl, hlj, z⟩, fun y H7 hy7 => ?_⟩
        obtain ⟨rfl, rfl⟩ := hy7
        have lz : zs.length ≤ 1000 := by
          have := Paired.len hz
          rw [List.length_append, zpL_len, posL_len] at this
          omega
        refine ⟨rfl, yesT ⟨_, rfl, _, rfl, _, _, rfl, rfl, _, rfl, _, rfl, _, _, rfl, rfl, (by show 2 ≤ sizeLine; decide), fun u nu => ⟨_, same_upd nu _ _ hM, small (by omega), same_grow nM (sm.trans (same_upd nu)), _, upd_same, ?_⟩⟩⟩
        rw [zp_snoc, ← List.append_assoc]
        refine Paired.app (pvs_grow (same_upd nu _ _ hM) (pvs_same (same_upd nu) hz)) (.cons (PV.grow (same_upd nu _ _ hM) ⟨u, rfl, ?_⟩) .nil)
        rw [upd_same]
        show some (HO.tup [V.int (b.1 + (0 + (j : Int))), V.int (b.2.1 + (0 + (j : Int)))]) = some (HO.tup [V.int (b.1 + (j : Int)), V.int (b.2.1 + (j : Int))])
        rw [Int.zero_add]
      · have e : j = b.2.2.toNat := by omega
        subst e
        refine .inl ⟨Nat.le_refl _, sm, zs, hM, ?_⟩
        rw [take_snoc eb, flB_snoc]
        exact hz
    · have e : i = xs.length := by omega
      subst e
      rw [lx, List.take_length] at hz
      refine .inl ⟨⟨xs, .of (sm _ _ hx), Nat.le_refl _⟩, ?_⟩
      -- the comparison
      have s46 := s4.trans (s5.trans sm)
      have hy6 := (hy4.same s5).same sm
      have hyp6 : Paired (Rp H') ys l := Paired.imp (fun _ _ z => (z.same s5).same sm) hyp
      refine ⟨a, ys, rfl, hy6, fun J2 wk2 N nN => lc_wk wk2 (fun i H'' => Same H' H'' ∧ ∃ ws, H'' N = some (.lst ws) ∧ Paired (PV H'') ws (ps.take i)) (fun i H'' p => p.1) ⟨same_upd nN, [], upd_same, .nil⟩ (fun i x H7 ex hP => ?_) (fun H7 hP => ?_)⟩
      · obtain ⟨s7, ws, hN, hw⟩ := hP
        obtain ⟨e, er, hr1⟩ := Paired.at hyp6 ex
        have hi : i < ys.length := (List.getElem?_eq_some_iff.mp ex).1
        obtain ⟨r, err⟩ : ∃ r, ps[i]? = some r := ⟨_, List.getElem?_eq_getElem (by omega)⟩
        have eo : e.prO = some r := by
          have := congrArg (fun z : List (Option Pr) => z[i]?) eps
          simp only [List.getElem?_map, er, err, Option.map_some] at this
          exact Option.some.inj this
        obtain ⟨t, rfl, ht⟩ := prO_at (hr1.same s7) eo
        refine ⟨rfl, yesT ⟨_, rfl, ix2 ht at0 ⟨_, rfl, ix2 ht at1 ⟨(by show 2 ≤ sizeLine; decide), fun u nu => ⟨_, same_upd nu _ _ hN, ?_, same_grow nN (s7.trans (same_upd nu)), _, upd_same, ?_⟩⟩⟩⟩⟩
        · have := Paired.len hw
          rw [List.length_take] at this
          exact small (by omega)
        · rw [take_snoc err]
          exact Paired.app (pvs_grow (same_upd nu _ _ hN) (pvs_same (same_upd nu) hw)) (.cons (PV.grow (same_upd nu _ _ hN) ⟨u, rfl, upd_same⟩) .nil)
      · obtain ⟨s7, ws, hN, hw⟩ := hP
        rw [ly, lps, List.take_length] at hw
        refine ⟨_, rfl, .list (ps.map dPr), .list ((flB B).map dPr), .lst (.of hN) (dp_pr hw), .lst (.of (s7 _ _ hM)) (dp_pr (pvs_same s7 hz)), shaped_pr _, shaped_pr _, ?_⟩
        rw [eqv_pr]
        have := q _ (sA.trans (s46.trans s7))
        rw [decide_eq_true (show cntB B ≤ 400 by omega), Bool.true_and] at this
        have ed : d.due (flB B) = decide (ps = flB B) := by
          unfold Dat.due
          rw [hd]
          show decide (l.map Dat.prO = (flB B).map some) = _
          rw [eps]
          exact decide_eq_decide.mpr ⟨map_some_inj, fun z => by rw [z]⟩
        rw [ed] at this
        exact this
end
end UP

set_option Elab.async false
set_option linter.all false
set_option maxRecDepth 100000
set_option maxHeartbeats 4000000
set_option pp.maxSteps 600
namespace UP
open PySem PySem.Spec PyProof.Rows L2
/-! ### the longest wait, one by one -/
theorem lwS_ge {l : Option Pr} {b : Blk} : ∃ q, lwS l b = some q ∧ b.2.1 - b.1 ≤ q.2 - q.1 := by
  unfold lwS
  cases l with
  | none => exact ⟨_, rfl, Int.le_refl _⟩
  | some p =>
    by_cases c : p.2 - p.1 < b.2.1 - b.1
    · exact ⟨_, if_pos c, Int.le_refl _⟩
    · exact ⟨_, if_neg c, by omega⟩
theorem lwR_add (F : List Blk) (x : Blk) : lwR (addB F x) = lwS (lwR F) x := by
  rcases addB_cases F x with e | ⟨B0, l, e, h1, h2, e2⟩
  · rw [e, lwR_snoc]
  · rw [e2, lwR_snoc, e, lwR_snoc]
    obtain ⟨q, e3, ge⟩ := lwS_ge (l := lwR B0) (b := l)
    have e4 : lwS (lwR B0) (l.1, l.2.1, l.2.2 + x.2.2) = lwS (lwR B0) l := rfl
    rw [e4, e3]
    show some q = if q.2 - q.1 < x.2.1 - x.1 then _ else _
    rw [if_neg (by omega)]
theorem snocRec {α : Type} {P : List α → Prop} (h0 : P []) (hs : ∀ l x, P l → P (l ++ [x])) (l : List α) : P l := by
  have : ∀ l : List α, P l.reverse := by
    intro l
    induction l with
    | nil => exact h0
    | cons x t ih =>
      rw [List.reverse_cons]
      exact hs _ x ih
  have := this l.reverse
  rw [List.reverse_reverse] at this
  exact this
def dfP (m : Int) (p : Pr) : Bool := decide (p.2 - p.1 = m)
theorem lw_pairs {t : Int} (ht : 1 ≤ t) (ps : List Pr) : ps ≠ [] → ∃ p, lwR (lbR t ps) = some (p.1 * t, p.2 * t) ∧ p ∈ ps ∧ (∀ x ∈ ps, x.2 - x.1 ≤ p.2 - p.1) ∧ (ps.filter (dfP (p.2 - p.1))).head? = some p := by
  refine snocRec (P := fun ps => ps ≠ [] → ∃ p, lwR (lbR t ps) = some (p.1 * t, p.2 * t) ∧ p ∈ ps ∧ (∀ x ∈ ps, x.2 - x.1 ≤ p.2 - p.1) ∧ (ps.filter (dfP (p.2 - p.1))).head? = some p) (fun h => absurd rfl h) (fun l x ih _ => ?_) ps
  rw [lbR_snoc, lwR_add]
  by_cases hl : l = []
  · subst hl
    refine ⟨x, rfl, List.mem_append.mpr (.inr (List.mem_singleton.mpr rfl)), fun y hy => ?_, ?_⟩
    · rw [List.nil_append] at hy
      rw [List.mem_singleton.mp hy]
      exact Int.le_refl _
    · rw [List.nil_append, List.filter_cons, show dfP (x.2 - x.1) x = true from decide_eq_true rfl]
      rfl
  · obtain ⟨p, e, hp, mx, hd⟩ := ih hl
    rw [e]
    by_cases c : p.2 - p.1 < x.2 - x.1
    · refine ⟨x, ?_, List.mem_append.mpr (.inr (List.mem_singleton.mpr rfl)), fun y hy => ?_, ?_⟩
      · show (if p.2 * t - p.1 * t < x.2 * t - x.1 * t then some (x.1 * t, x.2 * t) else _) = _
        rw [if_pos]
        rw [← Int.sub_mul, ← Int.sub_mul]
        exact Int.mul_lt_mul_of_pos_right c (by omega)
      · rcases List.mem_append.mp hy with h | h
        · have := mx y h
          omega
        · rw [List.mem_singleton.mp h]
          exact Int.le_refl _
      · rw [List.filter_append]
        have e0 : l.filter (dfP (x.2 - x.1)) = [] := by
          rw [List.filter_eq_nil_iff]
          intro y hy h
          have h1 : y.2 - y.1 = x.2 - x.1 := of_decide_eq_true h
          have := mx y hy
          omega
        rw [e0, List.nil_append, List.filter_cons, show dfP (x.2 - x.1) x = true from decide_eq_true rfl]
        rfl
    · refine ⟨p, ?_, List.mem_append.mpr (.inl hp), fun y hy => ?_, ?_⟩
      · show (if p.2 * t - p.1 * t < x.2 * t - x.1 * t then some (x.1 * t, x.2 * t) else _) = _
        rw [if_neg]
        rw [← Int.sub_mul, ← Int.sub_mul]
        intro z
        have := Int.mul_le_mul_of_nonneg_right (show x.2 - x.1 ≤ p.2 - p.1 by omega) (show 0 ≤ t by omega)
        omega
      · rcases List.mem_append.mp hy with h | h
        · exact mx y h
        · rw [List.mem_singleton.mp h]
          omega
      · rw [List.filter_append, List.head?_append, hd]
        rfl
theorem lg_lt {n k : Nat} (h : n < 2 ^ k) : n.log2 ≤ k := by
  by_cases c : n = 0
  · rw [c]
    exact Nat.zero_le _
  · exact Nat.le_of_lt ((Nat.log2_lt c).mpr h)
/-- a wait as data -/
def dLw : Option Pr → PyData
  | none => .none
  | some p => .tuple [.int p.1, .int p.2]
theorem dt_O {H : Hp} {v : V} {o : Option Pr} (h : OPV H v o) : Dt H 2 v (dLw o) := by
  cases o with
  | none =>
    cases h
    exact .inl (.inl ⟨rfl, rfl⟩)
  | some p =>
    obtain ⟨t, rfl, h⟩ := h
    exact .inr (.inr ⟨t, _, _, rfl, h, rfl, .cons dt_int (.cons dt_int .nil), Nat.le_of_ble_eq_true rfl⟩)
section
variable {P : Program} {w : World} {K : PySem.W.Frag} {mg : Str → Option Value} {base : Heap}
/-! _law_longest: slots 0:pairs 1:times 2:most 3:first 4:second 5:pair -/
abbrev s_law_longest : Stmt := topS 42
theorem sc_law_longest : FnScope ["pairs", "times", "most", "first", "second", "pair"] ["pairs", "times"] (defScope s_law_longest) := ⟨rfl, rfl, rfl, by decide +kernel, rfl, by decide +kernel, by decide +kernel⟩
def sp_law_longest : Sp := fun vs H Q _ => ∃ (a : Addr) (ps : List Pr) (t : Int), vs = [.ref a, .int t] ∧ Rngs H a ps ∧ ps.length ≤ 1000 ∧ (∀ p ∈ ps, 0 ≤ p.1 ∧ p.1 ≤ 1000000 ∧ 0 ≤ p.2 ∧ p.2 ≤ 1000000) ∧ 1 ≤ t ∧ t.natAbs < 2 ^ 8000 ∧ ∀ H' v, Same H H' → OPV H' v (lwR (lbR t ps)) → Q v H'
theorem ok_law_longest (D : Df K mg "_law_longest" s_law_longest) (T : Tx mg) : Has P w K mg base 1 "_law_longest" ["pairs", "times"] sp_law_longest := by
  refine has_of D sc_law_longest (fun _ _ _ _ _ _ us hl => match us, hl with | [_, _], _ => rfl) (fun vs H Q E h => ?_) (fun f cdv A outer s H vs Q E hr h => ?_)
  · obtain ⟨_, _, _, rfl, _⟩ := h
    rfl
  · obtain ⟨a, ps, t, rfl, ⟨xs, hx, hp⟩, l1, bd, t1, t8, q⟩ := h
    have lx : xs.length = ps.length := Paired.len hp
    refine ⟨_, (pss_cons (ps_if (pt_cmpR (op_eqD hr.units) (pv 0) (pe_lst pa_nil) (nomark _)) (pss_one (ps_ret pe_non)) pss_nil)
    (pss_cons (ps_set (i := 2) sc_law_longest.nd rfl (by first | exact Or.inl rfl | exact Or.inr rfl) (pe_callB (cr_max rfl) (by rfl) T.n_max (by decide +kernel) (pa_cons (pe_lc (own := [("first", 3), ("second", 4)]) rfl sc_law_longest.nd (pi_list (pv 0)) (blkOk_by (N := ["pairs", "times", "most", "first", "second", "pair"]) (sc := defScope s_law_longest) (by decide +kernel)) (fun _ _ _ _ _ => (pg_tupK (K := K) (n := 2) rfl rfl (pgs_cons (pg_name (i := 3) sc_law_longest.nd rfl (by first | exact Or.inl rfl | exact Or.inr rfl)) (pgs_cons (pg_name (i := 4) sc_law_longest.nd rfl (by first | exact Or.inl rfl | exact Or.inr rfl)) pgs_nil)))) (fun _ _ _ _ _ => pts_nil) (fun _ _ _ _ _ => (pe_op op_sub (pv 4) (pv 3)))) pa_nil)))
    (pss_cons (ps_asg (pe_ix ix_list (pe_lc (own := [("pair", 5)]) rfl sc_law_longest.nd (pi_list (pv 0)) (blkOk_by (N := ["pairs", "times", "most", "first", "second", "pair"]) (sc := defScope s_law_longest) (by decide +kernel)) (fun _ _ _ _ _ => (pg_name (i := 5) sc_law_longest.nd rfl (by first | exact Or.inl rfl | exact Or.inr rfl))) (fun _ _ _ _ _ => pts_one (pt_cmpR op_eq (pe_op op_sub (pe_ix (ix_tupK (K := K) rfl) (pv 5) pe_int (fun _ _ => rfl)) (pe_ix (ix_tupK (K := K) rfl) (pv 5) pe_int (fun _ _ => rfl))) (pv 2) (nomark _))) (fun _ _ _ _ _ => (pv 5))) pe_int (fun _ _ => rfl)) (pg_tup rfl (pgs_cons (pg_name (i := 3) sc_law_longest.nd rfl (by first | exact Or.inl rfl | exact Or.inr rfl)) (pgs_cons (pg_name (i := 4) sc_law_longest.nd rfl (by first | exact Or.inl rfl | exact Or.inr rfl)) pgs_nil))))
    (pss_one (ps_ret (pe_tup (pa_cons (pe_op op_mulW (pv 3) (pv 1)) (pa_cons (pe_op op_mulW (pv 4) (pv 1)) pa_nil)))))))), ?_⟩
    refine ⟨_, rfl, Nat.zero_le _, fun e ne => ?_⟩
    have se := same_upd (o := .lst []) ne
    refine ⟨.list (ps.map dPr), .list (([] : List Pr).map dPr), .lst (.of (se _ _ hx)) (dp_pr (pvs_same se hp)), .lst (.of upd_same) .nil, shaped_pr _, shaped_pr _, ?_⟩
    rw [eqv_pr]
    refine ⟨_, rfl, ?_⟩
    by_cases c : ps = []
    · subst c
      exact iteP (decide_eq_true rfl) (q _ .non se rfl)
    refine iteN (decide_eq_false c) ?_
    have l0 : 0 < ps.length := by
      cases ps with
      | nil => exact absurd rfl c
      | cons x t => exact Nat.succ_pos _
    obtain ⟨pm, elw, hpm, mx, hd⟩ := lw_pairs t1 ps c
    have hx1 := se _ _ hx
    have hp1 := pvs_same se hp
    generalize upd H e (HO.lst []) = H1 at *
    refine ⟨_, rfl, a, rfl, ⟨xs, .of hx1⟩, fun L nL => lc_list (K := K) (a := a) (xs := xs) (fun i H' => Same H1 H' ∧ H' L = some (.lst (((ps.take i).map fun p => p.2 - p.1).map V.int))) ⟨same_upd nL, upd_same⟩ (fun i H' _ p => .of (p.1 _ _ hx1)) (fun i x H2 ex hP => ?_) (fun H2 hP => ?_)⟩
    · obtain ⟨sm, hL⟩ := hP
      obtain ⟨r, er, hr1⟩ := Paired.at hp1 ex
      obtain ⟨tp, rfl, htp⟩ := PV.same sm hr1
      have hi : i < xs.length := (List.getElem?_eq_some_iff.mp ex).1
      refine ⟨tp, _, rfl, .of htp, rfl, _, _, rfl, _, _, rfl, rfl, rfl, yesT ⟨_, rfl, _, rfl, _, _, rfl, rfl, _, hL, ?_, same_grow nL sm, ?_⟩⟩
      · simp only [List.length_map, List.length_take]
        exact small (by omega)
      · rw [upd_same, take_snoc er, List.map_append, List.map_append]
        rfl
    obtain ⟨s2, hL⟩ := hP
    rw [lx, List.take_length] at hL
    refine ⟨L, _, rfl, .of hL, (by rw [List.length_map]; exact l0), fun m m1 m2 => ?_⟩
    have em : m = pm.2 - pm.1 := by
      obtain ⟨x, hx, e⟩ := List.mem_map.mp m1
      have h1 := mx x hx
      have h2 := m2 (pm.2 - pm.1) (List.mem_map.mpr ⟨pm, hpm, rfl⟩)
      omega
    clear m1 m2
    subst em
    have hx2 := s2 _ _ hx1
    have hp2 := pvs_same s2 hp1
    refine ⟨_, rfl, a, rfl, ⟨xs, .of hx2⟩, fun L2 nL2 => lc_list (K := K) (a := a) (xs := xs) (fun i H' => Same H2 H' ∧ ∃ ws, H' L2 = some (.lst ws) ∧ ws.length ≤ i ∧ Paired (PV H') ws ((ps.take i).filter (dfP (pm.2 - pm.1)))) ⟨same_upd nL2, [], upd_same, Nat.le_refl _, .nil⟩ (fun i H' _ p => .of (p.1 _ _ hx2)) (fun i x H3 ex hP => ?_) (fun H3 hP => ?_)⟩
    · obtain ⟨sm, ws, hL2, lw, hw⟩ := hP
      obtain ⟨r, er, hr1⟩ := Paired.at hp2 ex
      obtain ⟨tp, rfl, htp⟩ := PV.same sm hr1
      have hi : i < xs.length := (List.getElem?_eq_some_iff.mp ex).1
      have ef : (ps.take (i + 1)).filter (dfP (pm.2 - pm.1)) = (ps.take i).filter (dfP (pm.2 - pm.1)) ++ [r].filter (dfP (pm.2 - pm.1)) := by rw [take_snoc er, List.filter_append]
      refine ⟨rfl, _, rfl, tp, _, 1, _, rfl, rfl, .of htp, at1, _, rfl, tp, _, 0, _, rfl, rfl, .of htp, at0, _, _, rfl, rfl, _, rfl, rfl, _, rfl, ?_⟩
      by_cases cr : r.2 - r.1 = pm.2 - pm.1
      · refine iteP ?_ ⟨_, rfl, _, hL2, small (by omega), same_grow nL2 sm, _, upd_same, ?_, ?_⟩
        · exact decide_eq_true (congrArg V.int cr)
        · rw [List.length_append, List.length_singleton]
          omega
        · rw [ef, List.filter_cons, show dfP (pm.2 - pm.1) r = true from decide_eq_true cr]
          exact Paired.app (pvs_grow hL2 hw) (.cons (PV.grow hL2 ⟨tp, rfl, htp⟩) .nil)
      · refine iteN ?_ ⟨sm, ws, hL2, by omega, ?_⟩
        · exact decide_eq_false fun z => cr (V.int.inj z)
        · rw [ef, List.filter_cons, show dfP (pm.2 - pm.1) r = false from decide_eq_false cr]
          show Paired _ ws (_ ++ [])
          rw [List.append_nil]
          exact hw
    obtain ⟨s3, ws, hL2, lw, hw⟩ := hP
    rw [lx, List.take_length] at hw
    obtain ⟨x, ex, ⟨tp, rfl, htp⟩⟩ := Paired.at' (i := 0) hw (by rw [← List.head?_eq_getElem?]; exact hd)
    have e0 : atI ws 0 = some (.ref tp) := atI_of (by decide) ex
    have bp := bd pm hpm
    have l1 := lg_lt (n := pm.1.natAbs) (k := 64) (Nat.lt_of_lt_of_le (show pm.1.natAbs < 2000000 by omega) (by decide))
    have l2 := lg_lt (n := pm.2.natAbs) (k := 64) (Nat.lt_of_lt_of_le (show pm.2.natAbs < 2000000 by omega) (by decide))
    have l3 := lg_lt t8
    refine ⟨L2, ws, 0, _, rfl, rfl, .of hL2, e0, tp, _, rfl, .of htp, rfl, _, _, rfl, _, _, rfl, rfl, ?_⟩
    refine ⟨_, rfl, _, rfl, _, _, rfl, rfl, (by show _ + _ < _; omega), _, rfl, _, rfl, _, _, rfl, rfl, (by show _ + _ < _; omega), (by show 2 ≤ sizeLine; decide), fun u nu => ?_⟩
    refine q _ _ (se.trans (s2.trans (s3.trans (same_upd nu)))) ?_
    rw [elw]
    exact ⟨u, rfl, upd_same⟩
end
end UP

set_option Elab.async false
set_option linter.all false
set_option maxRecDepth 100000
set_option maxHeartbeats 4000000
set_option pp.maxSteps 600
namespace UP
open PySem PySem.Spec PyProof.Rows L2
/-! ### values without dicts -/
mutual
def Dat.nk : Dat → Bool
  | .dic => false
  | .lst l => Dat.nks l
  | .tup l => Dat.nks l
  | _ => true
def Dat.nks : List Dat → Bool
  | [] => true
  | x :: t => x.nk && Dat.nks t
end
theorem Rp.dp {K : PySem.W.Frag} {H : Hp} {v : V} {d : Dat} (h : Rp H v d) : d.nk = true → Dp K H v d.py := by
  refine Rp.rec (motive_1 := fun v d _ => d.nk = true → Dp K H v d.py) (motive_2 := fun xs l _ => Dat.nks l = true → DpAll K H xs (Dat.pys l)) ?_ ?_ ?_ ?_ ?_ ?_ ?_ ?_ ?_ h
  · intro _
    rw [Dat.py]
    exact .non
  · intro b _
    rw [Dat.py]
    exact .bl b
  · intro n _
    rw [Dat.py]
    exact .int n
  · intro z _
    rw [Dat.py]
    exact .str z
  · intro a e c
    cases c
  · intro a xs l e _ ih c
    rw [Dat.py]
    rw [Dat.nk] at c
    exact .lst (.of e) (ih c)
  · intro a xs l e _ ih c
    rw [Dat.py]
    rw [Dat.nk] at c
    exact .tup (.of e) (ih c)
  · intro _
    rw [Dat.pys]
    exact .nil
  · intro x y xs ys _ _ h1 h2 c
    rw [Dat.nks, Bool.and_eq_true] at c
    rw [Dat.pys]
    exact .cons (h1 c.1) (h2 c.2)
theorem rps_dp {K : PySem.W.Frag} {H : Hp} : ∀ {xs : List V} {l : List Dat}, Paired (Rp H) xs l → Dat.nks l = true → DpAll K H xs (Dat.pys l)
  | _, _, .nil, _ => by rw [Dat.pys]; exact .nil
  | _, _, .cons h t, c => by
    rw [Dat.nks, Bool.and_eq_true] at c
    rw [Dat.pys]
    exact .cons (h.dp c.1) (rps_dp t c.2)
theorem nk_parts {d : Dat} {l : List Dat} (hd : d.parts = some l) (c : d.nk = true) : Dat.nks l = true := by
  cases d with
  | lst q => cases hd; rw [Dat.nk] at c; exact c
  | tup q => cases hd; rw [Dat.nk] at c; exact c
  | _ => cases hd
theorem shaped_parts {d : Dat} {l : List Dat} (hd : d.parts = some l) (c : SeqAt.shaped d.py = true) : SeqAt.shaped (.list (Dat.pys l)) = true := by
  cases d with
  | lst q => cases hd; rw [Dat.py] at c; exact c
  | tup q =>
    cases hd
    rw [Dat.py] at c
    unfold SeqAt.shaped at c ⊢
    rw [PyData.canLay0, PyData.depth] at c
    rw [PyData.canLay0, PyData.depth]
    exact c
  | _ => cases hd
theorem shaped_pairD (x y : Int) : SeqAt.shaped (.list [.int x, .int y]) = true := shaped_two x y
noncomputable instance decDat : DecidableEq Dat := fun a b => Classical.propDecidable (a = b)
def Dat.bB : Dat → Option Bool
  | .bl b => some b
  | _ => none
theorem dp_bls {K : PySem.W.Frag} {H : Hp} : ∀ (bs : List Bool), DpAll K H (bs.map V.bl) (bs.map PyData.bool)
  | [] => .nil
  | b :: t => .cons (.bl b) (dp_bls t)
theorem can_bls : ∀ (bs : List Bool), PyData.canLayAll0 (bs.map PyData.bool) = true ∧ PyData.depthAll (bs.map PyData.bool) = 0
  | [] => ⟨by rw [List.map_nil, PyData.canLayAll0], by rw [List.map_nil, PyData.depthAll]⟩
  | b :: t => by
    obtain ⟨h1, h2⟩ := can_bls t
    rw [List.map_cons, PyData.canLayAll0, PyData.depthAll, h1, h2, PyData.canLay0, PyData.depth]
    exact ⟨rfl, rfl⟩
theorem shaped_bls (bs : List Bool) : SeqAt.shaped (.list (bs.map PyData.bool)) = true := by
  obtain ⟨h1, h2⟩ := can_bls bs
  unfold SeqAt.shaped
  rw [PyData.canLay0, PyData.depth, h1, h2]
  rfl
theorem eqv_nilD {ds : List PyData} : PyData.eqv (.list ds) (.list []) = ds.isEmpty := by
  rw [PyData.eqv]
  cases ds with
  | nil => rw [PyData.eqvAll]; rfl
  | cons x t => rw [PyData.eqvAll]; rfl
theorem eqv_i {a : Dat} {x : Int} (h : a.bB = none) : PyData.eqv a.py (.int x) = decide (a = .int x) := by
  cases a with
  | bl b => cases h
  | int n =>
    rw [Dat.py, PyData.eqv]
    by_cases c : n = x
    · rw [c, decide_eq_true rfl]
      simp
    · rw [decide_eq_false (fun z => c (Dat.int.inj z))]
      simpa using c
  | _ => rw [Dat.py, PyData.eqv, decide_eq_false (fun z => by cases z)]
theorem eqv_pair {q : List Dat} {p : Pr} (h : q.filterMap Dat.bB = []) : PyData.eqv (.list (Dat.pys q)) (.list [.int p.1, .int p.2]) = decide (q = [.int p.1, .int p.2]) := by
  have hb : ∀ a ∈ q, a.bB = none := fun a ha => by
    cases e : a.bB with
    | none => rfl
    | some b =>
      have : b ∈ q.filterMap Dat.bB := List.mem_filterMap.mpr ⟨a, ha, e⟩
      rw [h] at this
      cases this
  rw [PyData.eqv]
  match q, hb with
  | [], _ => rw [Dat.pys, PyData.eqvAll]; rfl
  | [a], hb => rw [Dat.pys, Dat.pys, PyData.eqvAll, PyData.eqvAll, Bool.and_false, decide_eq_false (fun z => by cases z)]
  | [a, b], hb =>
    rw [Dat.pys, Dat.pys, Dat.pys, PyData.eqvAll, PyData.eqvAll, PyData.eqvAll, Bool.and_true, eqv_i (hb a (by simp)), eqv_i (hb b (by simp))]
    by_cases c1 : a = .int p.1
    · by_cases c2 : b = .int p.2
      · rw [c1, c2, decide_eq_true rfl, decide_eq_true rfl, decide_eq_true rfl]
        rfl
      · rw [decide_eq_false c2, Bool.and_false, decide_eq_false (fun z => c2 (by cases z; rfl))]
    · rw [decide_eq_false c1, Bool.false_and, decide_eq_false (fun z => c1 (by cases z; rfl))]
  | a :: b :: c :: t, _ => rw [Dat.pys, Dat.pys, Dat.pys, PyData.eqvAll, PyData.eqvAll, PyData.eqvAll, Bool.and_false, Bool.and_false, decide_eq_false (fun z => by cases z)]
theorem prO_of {e : Dat} {q : List Dat} {p : Pr} (he : e.parts = some q) : e.prO = some p ↔ q = [.int p.1, .int p.2] := by
  constructor
  · intro h
    have := prO_parts h
    rw [he] at this
    exact Option.some.inj this
  · intro h
    unfold Dat.prO
    rw [he, h]
theorem due_ne {d e : Dat} {l : List Dat} {ps : List Pr} {p : Pr} {i : Nat} (hd : d.parts = some l) (el : l[i]? = some e) (ep : ps[i]? = some p) (h : e.prO ≠ some p) : d.due ps = false := by
  refine due_no fun l' e1 e2 => h ?_
  rw [hd] at e1
  cases e1
  have := congrArg (fun z : List (Option Pr) => z[i]?) e2
  simp only [List.getElem?_map, el, ep, Option.map_some] at this
  exact Option.some.inj this
theorem prO_none {e : Dat} (h : e.parts = none) {p : Pr} : e.prO ≠ some p := fun z => by
  have := prO_parts z
  rw [h] at this
  cases this
theorem Rd.same {H H' : Hp} (s : Same H H') {a : Addr} {u : HO} (h : Rd H a u) : Rd H' a u := h.elim (fun z => .inl (s _ _ z)) fun ⟨o, z⟩ => .inr ⟨o, s _ _ z⟩
theorem Sd.here_same {K : PySem.W.Frag} {H H' : Hp} (s : Same H H') {S : Sd} (h : S.here K H) : S.here K H' := by
  cases S with
  | lst a xs => exact Or.elim h (fun z => .inl (UP.Rd.same s z)) .inr
  | tup a xs => exact Or.elim h (fun z => .inl (UP.Rd.same s z)) .inr
  | str z t => exact h
section
variable {P : Program} {w : World} {K : PySem.W.Frag} {mg : Str → Option Value} {base : Heap}
theorem Sq2.two {H : Hp} {a : Addr} {xs : List V} (h : Sq2 H a xs) : SqL K H a xs ∨ SqT K H a xs := h.elim (fun z => .inl (.of z)) fun z => .inr (.of z)
theorem Sq2.ty {H : Hp} {a : Addr} {xs : List V} (h : Sq2 H a xs) : ∃ t, TyX K H (.ref a) t ∧ PySem.W.kitAny K t [.type "list", .type "tuple"] = some true := h.elim (fun z => ⟨_, .base (.lst z), kit_lst⟩) fun z => ⟨_, .base (.tup z), kit_tup⟩
theorem Rp.isB {H : Hp} {v : V} {d : Dat} (h : Rp H v d) : ∃ t, TyX K H v t ∧ PySem.W.kitOne K t (.type "bool") = some d.bB.isSome := by
  cases h with
  | non => exact ⟨_, .base .non, kit_ty (show kitB "NoneType" "bool" = some false by decide +kernel)⟩
  | bl b => exact ⟨_, .base (.bl b), kit_ty (show kitB "bool" "bool" = some true by decide +kernel)⟩
  | int n => exact ⟨_, .base (.int n), kit_ty (show kitB "int" "bool" = some false by decide +kernel)⟩
  | str z => exact ⟨_, .base (.str z), kit_ty (show kitB "str" "bool" = some false by decide +kernel)⟩
  | dic e => exact ⟨_, .base (.dK e), kit_ty (show kitB "dict" "bool" = some false by decide +kernel)⟩
  | lst e _ => exact ⟨_, .base (.lst e), kit_ty (show kitB "list" "bool" = some false by decide +kernel)⟩
  | tup e _ => exact ⟨_, .base (.tup e), kit_ty (show kitB "tuple" "bool" = some false by decide +kernel)⟩
/-! _law_is_due: slots 0:value 1:pairs 2:one 3:two 4:part -/
abbrev s_law_is_due : Stmt := topS 44
theorem sc_law_is_due : FnScope ["value", "pairs", "one", "two", "part"] ["value", "pairs"] (defScope s_law_is_due) := ⟨rfl, rfl, rfl, by decide +kernel, rfl, by decide +kernel, by decide +kernel⟩
def sp_law_is_due : Sp := fun vs H Q _ => ∃ (u : V) (d : Dat) (a : Addr) (ps : List Pr), vs = [u, .ref a] ∧ Rp H u d ∧ Rngs H a ps ∧ (∀ l, d.parts = some l → l.length ≤ 1000 ∧ ∀ e ∈ l, (∀ q, e.parts = some q → q.length ≤ 1000) ∧ e.nk = true ∧ SeqAt.shaped e.py = true) ∧ ∀ H', Same H H' → Q (.bl (d.due ps)) H'
theorem ok_law_is_due (D : Df K mg "_law_is_due" s_law_is_due) (T : Tx mg) : Has P w K mg base 1 "_law_is_due" ["value", "pairs"] sp_law_is_due := by
  refine has_of D sc_law_is_due (fun _ _ _ _ _ _ us hl => match us, hl with | [_, _], _ => rfl) (fun vs H Q E h => ?_) (fun f cdv A outer s H vs Q E hr h => ?_)
  · obtain ⟨_, _, _, _, rfl, _⟩ := h
    rfl
  · obtain ⟨u, d, M, ps, rfl, hv, ⟨ys, hy, hyp⟩, good, q⟩ := h
    have ly : ys.length = ps.length := Paired.len hyp
    refine ⟨_, (pss_cons (ps_if (PW.pt (pw_or (pt_not (pt_val (pe_callB call_isiT (by rfl) T.n_isinstance (by decide +kernel) (pa_cons (pv 0) (pa_cons (pe_tup (pa_cons (pe_bltn (v := .ty "list") (by rfl) T.n_list (by decide +kernel) rfl) (pa_cons (pe_bltn (v := .ty "tuple") (by rfl) T.n_tuple (by decide +kernel) rfl) pa_nil))) pa_nil))))) (pw_or1 (pt_cmpR op_ne (pe_callB call_len_seq (by rfl) T.n_len (by decide +kernel) (pa_cons (pv 0) pa_nil)) (pe_callB call_len_seq (by rfl) T.n_len (by decide +kernel) (pa_cons (pv 1) pa_nil)) (nomark _))))) (pss_one (ps_ret pe_bl)) pss_nil)
    (pss_cons (ps_for PassesOwn.never rfl (pi_zipG (by rfl) T.n_zip (pa_cons (pv 0) (pa_cons (pv 1) pa_nil))) (pg_tup rfl (pgs_cons (pg_name (i := 2) sc_law_is_due.nd rfl (by first | exact Or.inl rfl | exact Or.inr rfl)) (pgs_cons (pg_name (i := 3) sc_law_is_due.nd rfl (by first | exact Or.inl rfl | exact Or.inr rfl)) pgs_nil)))
      (pss_cons (ps_if (PW.pt (pw_or (pt_not (pt_val (pe_callB call_isiT (by rfl) T.n_isinstance (by decide +kernel) (pa_cons (pv 2) (pa_cons (pe_tup (pa_cons (pe_bltn (v := .ty "list") (by rfl) T.n_list (by decide +kernel) rfl) (pa_cons (pe_bltn (v := .ty "tuple") (by rfl) T.n_tuple (by decide +kernel) rfl) pa_nil))) pa_nil))))) (pw_or1 (pt_cmpR (op_neD hr.units) (pe_lc (own := [("part", 4)]) rfl sc_law_is_due.nd (pi_seqV 2) (blkOk_by (N := ["value", "pairs", "one", "two", "part"]) (sc := defScope s_law_is_due) (by decide +kernel)) (fun _ _ _ _ _ => (pg_name (i := 4) sc_law_is_due.nd rfl (by first | exact Or.inl rfl | exact Or.inr rfl))) (fun _ _ _ _ _ => pts_one (pt_val (pe_callB (call_isiK (K := K) rfl) (by rfl) T.n_isinstance (by decide +kernel) (pa_cons (pv 4) (pa_cons (pe_bltn (v := .ty "bool") (by rfl) T.n_bool (by decide +kernel) rfl) pa_nil))))) (fun _ _ _ _ _ => (pv 4))) (pe_lst pa_nil) (nomark _))))) (pss_one (ps_ret pe_bl)) pss_nil)
    (pss_one (ps_if (pt_cmpR (op_neD hr.units) (pe_callTy call_list_of (by rfl) T.n_list (by decide +kernel) (pa_cons (pv 2) pa_nil)) (pe_callTy call_list_of (by rfl) T.n_list (by decide +kernel) (pa_cons (pv 3) pa_nil)) (nomark _)) (pss_one (ps_ret pe_bl)) pss_nil))))
    (pss_one (ps_ret pe_bl)))), ?_⟩
    refine ⟨_, rfl, (by show 2 ≤ sizeLine; decide), fun t nt => ?_⟩
    have st := same_upd (o := .tup [.ty "list", .ty "tuple"]) nt
    have hv1 := hv.same st
    cases hd : d.parts with
    | none =>
      obtain ⟨tv, h1, h2⟩ := hv1.noSeq (K := K) hd
      refine ⟨_, t, _, _, _, false, rfl, upd_same, .cons (.ty "list") (.cons (.ty "tuple") .nil), h1, h2, false, rfl, iteP rfl ?_⟩
      have := q _ st
      rw [due_no (fun l e => by rw [hd] at e; cases e)] at this
      exact this
    | some l =>
      obtain ⟨a, xs, rfl, hx, hp⟩ := hv1.seq hd
      have lx : xs.length = l.length := Paired.len hp
      obtain ⟨l1, good⟩ := good l hd
      obtain ⟨tv, h1, h2⟩ := Sq2.ty (K := K) hx
      refine ⟨_, t, _, _, _, true, rfl, upd_same, .cons (.ty "list") (.cons (.ty "tuple") .nil), h1, h2, true, rfl, iteN rfl ?_⟩
      have hy1 := st _ _ hy
      have hyp1 := pvs_same st hyp
      have q : ∀ H', Same (upd H t (.tup [.ty "list", .ty "tuple"])) H' → Q (.bl (d.due ps)) H' := fun H' s => q _ (st.trans s)
      clear hv hv1 hy hyp h1 h2 tv st
      generalize upd H t (.tup [.ty "list", .ty "tuple"]) = H1 at *
      refine ⟨_, rfl, a, xs, rfl, hx.two, _, rfl, _, _, rfl, .inl (.of hy1), rfl, _, rfl, ?_⟩
      by_cases cl : l.length = ps.length
      case neg =>
        refine iteP ?_ ?_
        · rw [decide_eq_false (fun z => cl (by have := V.int.inj z; omega))]
          rfl
        · have := q _ (Same.refl _)
          rw [due_no (fun l' e1 e2 => by
            rw [hd] at e1
            cases e1
            have := congrArg List.length e2
            rw [List.length_map, List.length_map] at this
            exact cl this)] at this
          exact this
      refine iteN ?_ ?_
      · rw [decide_eq_true (by rw [lx, ly, cl])]
        rfl
      have no : ∀ {H' : Hp} {e : Dat} {p : Pr} {i : Nat}, Same H1 H' → l[i]? = some e → ps[i]? = some p → e.prO ≠ some p → Q (.bl false) H' := fun {H' e p i} s e1 e2 h => by
        have := q _ s
        rw [due_ne hd e1 e2 h] at this
        exact this
      refine ⟨_, rfl, _, rfl, _, _, rfl, .inl ⟨a, xs, M, ys, rfl, rfl, hx.two, .inl (.of hy1), fun S1 S2 x1 x2 w1 w2 _ _ => for_gen (J := ItG K S1 S2) (n := xs.length) (fun i σ H' => ∃ y2 y3 y4, σ = [some (.ref a), some (.ref M), y2, y3, y4] ∧ Same H1 H' ∧ (l.take i).map Dat.prO = (ps.take i).map some) ⟨none, none, none, rfl, Same.refl _, rfl⟩ (fun i σ H' hi hP => ?_) (fun σ H' hP => ?_) (fun i x σ H2 H3 hi hP hz => ?_) (fun σ H2 hP => ?_)⟩⟩
      · obtain ⟨_, _, _, _, sm, _⟩ := hP
        exact ⟨Sd.here_same sm w1, Sd.here_same sm w2, by rw [x1]; exact hi, by rw [x2]; omega⟩
      · obtain ⟨_, _, _, _, sm, _⟩ := hP
        exact ⟨Sd.here_same sm w1, Sd.here_same sm w2, by rw [x1]; exact Nat.le_refl _, by rw [x2]; omega, .inl (by rw [x1])⟩
      · obtain ⟨y2, y3, y4, rfl, sm, inv⟩ := hP
        obtain ⟨Z, x', y', rfl, nZ, rfl, e1, e2⟩ := hz
        rw [x1] at e1
        rw [x2] at e2
        have sZ := same_upd (o := .tup [x', y']) nZ
        obtain ⟨e, ee, he⟩ := Paired.at hp e1
        obtain ⟨p, ep, hpv⟩ := Paired.at hyp1 e2
        have s3 := sm.trans sZ
        have hZ3 : upd H2 Z (.tup [x', y']) Z = some (.tup [x', y']) := upd_same
        obtain ⟨t2, rfl, ht2⟩ := PV.same s3 hpv
        have he := he.same s3
        obtain ⟨g1, g2, g3⟩ := good e (List.mem_of_getElem? ee)
        clear sm sZ nZ hpv
        generalize upd H2 Z (.tup [x', .ref t2]) = H3 at *
        refine ⟨Z, _, rfl, .of hZ3, rfl, _, _, rfl, _, _, rfl, rfl, ?_⟩
        refine ⟨_, rfl, (by show 2 ≤ sizeLine; decide), fun t nt => ?_⟩
        have st := same_upd (o := .tup [.ty "list", .ty "tuple"]) nt
        have he4 := he.same st
        cases he2 : e.parts with
        | none =>
          obtain ⟨tv, h1, h2⟩ := he4.noSeq (K := K) he2
          exact ⟨_, t, _, _, _, false, rfl, upd_same, .cons (.ty "list") (.cons (.ty "tuple") .nil), h1, h2, false, rfl, iteP rfl (no (s3.trans st) ee ep (prO_none he2))⟩
        | some qe =>
          obtain ⟨b, zs, rfl, hb, hzp⟩ := he4.seq he2
          have lz : zs.length = qe.length := Paired.len hzp
          have g1 := g1 qe he2
          obtain ⟨tv, h1, h2⟩ := Sq2.ty (K := K) hb
          refine ⟨_, t, _, _, _, true, rfl, upd_same, .cons (.ty "list") (.cons (.ty "tuple") .nil), h1, h2, true, rfl, iteN rfl ?_⟩
          have ht4 := st _ _ ht2
          have s4 := s3.trans st
          clear he he4 h1 h2 tv st ht2 hZ3 s3
          generalize upd H3 t (.tup [.ty "list", .ty "tuple"]) = H4 at *
          -- no truth values
          refine ⟨b, zs, rfl, hb, fun J wk L nL => lc_wk wk (fun i H' => Same H4 H' ∧ H' L = some (.lst (((qe.take i).filterMap Dat.bB).map V.bl))) (fun i H' p => p.1) ⟨same_upd nL, upd_same⟩ (fun i x H5 ex hP => ?_) (fun H5 hP => ?_)⟩
          · obtain ⟨sm, hL⟩ := hP
            obtain ⟨r, er, hr1⟩ := Paired.at hzp ex
            have hr5 := hr1.same sm
            obtain ⟨tx, k1, k2⟩ := Rp.isB (K := K) hr5
            have hi : i < zs.length := (List.getElem?_eq_some_iff.mp ex).1
            have ef : (qe.take (i + 1)).filterMap Dat.bB = (qe.take i).filterMap Dat.bB ++ [r].filterMap Dat.bB := by rw [take_snoc er, List.filterMap_append]
            refine ⟨rfl, _, rfl, _, _, _, _, _, rfl, .ty "bool", k1, k2, _, rfl, ?_⟩
            cases eb : r.bB with
            | none =>
              refine iteF ⟨sm, ?_⟩
              rw [ef, List.filterMap_cons, eb]
              show _ = some (HO.lst ((_ ++ []).map V.bl))
              rw [List.append_nil]
              exact hL
            | some bb =>
              have er2 : r = .bl bb := by
                cases r with
                | bl z => cases eb; rfl
                | _ => cases eb
              subst er2
              cases hr5
              refine iteT ⟨_, rfl, _, hL, ?_, same_grow nL sm, ?_⟩
              · have := List.length_filterMap_le Dat.bB (qe.take i)
                rw [List.length_take] at this
                rw [List.length_map]
                exact small (by omega)
              · rw [upd_same, ef, List.filterMap_cons, eb, List.map_append]
                rfl
          obtain ⟨s5, hL⟩ := hP
          rw [lz, List.take_length] at hL
          refine ⟨Nat.zero_le _, fun N nN => ?_⟩
          have sN := same_upd (o := .lst []) nN
          refine ⟨.list ((qe.filterMap Dat.bB).map PyData.bool), .list (([] : List Bool).map PyData.bool), .lst (.of (sN _ _ hL)) (dp_bls _), .lst (.of upd_same) .nil, shaped_bls _, shaped_bls _, _, rfl, ?_⟩
          rw [show PyData.eqv (.list ((qe.filterMap Dat.bB).map PyData.bool)) (.list (([] : List Bool).map PyData.bool)) = _ from eqv_nilD]
          have s45 := s5.trans sN
          have sA := s4.trans s45
          by_cases cb : qe.filterMap Dat.bB = []
          case neg =>
            refine iteP ?_ (no sA ee ep fun z => cb ?_)
            · cases h : qe.filterMap Dat.bB with
              | nil => exact absurd h cb
              | cons x t => rfl
            · rw [(prO_of he2).mp z]
              rfl
          refine iteN (by rw [cb]; rfl) ?_
          -- the same
          have hb6 := hb.same s45
          have hzp6 := rps_same s45 hzp
          have ht6 := s45 _ _ ht4
          generalize upd H5 N (.lst []) = H6 at *
          refine ⟨_, rfl, b, zs, rfl, hb6.two, fun n1 nn1 => ?_⟩
          have s1 := same_upd (o := .lst zs) nn1
          refine ⟨_, rfl, t2, _, rfl, .inr (.of (s1 _ _ ht6)), fun n2 nn2 => ?_⟩
          have s2 := same_upd (o := .lst [.int p.1, .int p.2]) nn2
          refine ⟨.list (Dat.pys qe), .list [.int p.1, .int p.2], .lst (.of (s2 _ _ upd_same)) (rps_dp (rps_same (s1.trans s2) hzp6) (nk_parts he2 g2)), .lst (.of upd_same) (.cons (.int _) (.cons (.int _) .nil)), shaped_parts he2 g3, shaped_two _ _, _, rfl, ?_⟩
          rw [eqv_pair cb]
          have sB := sA.trans (s1.trans s2)
          by_cases ce : qe = [.int p.1, .int p.2]
          · refine iteN (by rw [decide_eq_true ce]; rfl) ⟨_, _, _, rfl, sB, ?_⟩
            rw [take_snoc ee, take_snoc ep, List.map_append, List.map_append, inv]
            show _ ++ [e.prO] = _
            rw [(prO_of he2).mpr ce]
            rfl
          · exact iteP (by rw [decide_eq_false ce]; rfl) (no sB ee ep fun z => ce ((prO_of he2).mp z))
      · obtain ⟨y2, y3, y4, rfl, sm, inv⟩ := hP
        have := q _ sm
        rw [lx, List.take_length, cl, List.take_length] at inv
        have ed : d.due ps = true := by
          unfold Dat.due
          rw [hd]
          exact decide_eq_true inv
        rw [ed] at this
        exact this
end
end UP

set_option Elab.async false
set_option linter.all false
set_option maxRecDepth 100000
set_option maxHeartbeats 4000000
set_option pp.maxSteps 600
namespace UP
open PySem PySem.Spec PyProof.Rows L2
theorem Rngs.but {H H' : Hp} {sp a : Addr} {R : List Rg} (z : Spr H sp) (s : But sp H H') (h : Rngs H a R) : Rngs H' a R := by
  obtain ⟨xs, e, p⟩ := h
  obtain ⟨d, c1, c2, hs, _⟩ := z
  refine ⟨xs, s _ _ (ne_of e hs fun q => ?_) e, Paired.imp (fun v r w => ?_) p⟩
  · have q := HO.lst.inj q
    subst q
    cases p with
    | cons h _ =>
      obtain ⟨t, e, _⟩ := h
      cases e
  · obtain ⟨t, e, h⟩ := w
    exact ⟨t, e, s _ _ (ne_of h hs (by intro q; cases q)) h⟩
/-! ### pairs as values -/
def prD (p : Pr) : Dat := .tup [.int p.1, .int p.2]
theorem rp_prs {H : Hp} : ∀ {xs : List V} {ps : List Pr}, Paired (PV H) xs ps → Paired (Rp H) xs (ps.map prD)
  | _, _, .nil => .nil
  | _, _, .cons ⟨t, e, h⟩ r => by
    subst e
    exact .cons (.tup h (.cons (.int _) (.cons (.int _) .nil))) (rp_prs r)
theorem rp_rngs {H : Hp} {a : Addr} {ps : List Pr} (h : Rngs H a ps) : Rp H (.ref a) (.lst (ps.map prD)) := by
  obtain ⟨xs, e, p⟩ := h
  exact .lst e (rp_prs p)
def cutD (l : List Dat) (lo hi : Option Int) : List Dat := (l.drop (HT.sIx l.length 0 lo)).take (HT.sIx l.length l.length hi - HT.sIx l.length 0 lo)
theorem cutD_mem {l : List Dat} {lo hi : Option Int} {x : Dat} (h : x ∈ cutD l lo hi) : x ∈ l := List.mem_of_mem_drop (List.mem_of_mem_take h)
theorem cutD_len (l : List Dat) (lo hi : Option Int) : (cutD l lo hi).length ≤ l.length := by
  unfold cutD
  rw [List.length_take, List.length_drop]
  omega
theorem paired_cut {F : V → Dat → Prop} {xs : List V} {l : List Dat} {lo hi : Option Int} (h : Paired F xs l) : Paired F (cutV xs lo hi) (cutD l lo hi) := by
  unfold cutV cutD
  rw [Paired.len h]
  exact Paired.takep _ (Paired.dropp _ h)
theorem paired_rev {α β : Type} {F : α → β → Prop} : ∀ {xs : List α} {ys : List β}, Paired F xs ys → Paired F xs.reverse ys.reverse
  | _, _, .nil => .nil
  | _, _, .cons h t => by
    rw [List.reverse_cons, List.reverse_cons]
    exact Paired.app (paired_rev t) (.cons h .nil)
/-! ### slices of written values -/
def LitO (σ : L2.St) (H0 : Hp) (t : TO) (o : Option Int) : Prop := ∀ H (R : Option Int → Hp → Prop), Same H0 H → R o H → t σ H R
section
variable {σ : L2.St} {H0 : Hp} {K : PySem.W.Frag}
theorem lito_none : LitO σ H0 tNoPart none := fun H R _ q => q
theorem lito_var {i : Nat} {k : Int} (e : σ[i]? = some (some (.int k))) : LitO σ H0 (tPart (tVar i)) (some k) := fun H R _ q => ⟨_, e, k, rfl, q⟩
theorem lito_int {n : Int} : LitO σ H0 (tPart (tC (.int n))) (some n) := fun H R _ q => ⟨n, rfl, q⟩
theorem lito_neg {n : Int} : LitO σ H0 (tPart (tUn (rU fun i => V.int (-i)) (tC (V.int n)))) (some (-n)) := fun H R _ q => ⟨n, rfl, -n, rfl, q⟩
theorem lito_add {i : Nat} {k n : Int} (e : σ[i]? = some (some (.int k))) : LitO σ H0 (tPart (tOp (rI0 fun i j => V.int (i + j)) (tVar i) (tC (.int n)))) (some (k + n)) := fun H R _ q => ⟨_, e, k, n, rfl, rfl, _, rfl, q⟩
theorem lit_neg {n : Int} : Lit σ H0 (tUn (rU fun i => V.int (-i)) (tC (V.int n))) (.int (-n)) := lit_val (v := .int (-n)) (fun H Q q => ⟨n, rfl, q⟩) (fun H => .int _)
theorem lit_cut {t : TE} {tl th : TO} {ds : List Dat} {lo hi : Option Int} (h : Lit σ H0 t (.lst ds)) (hl : LitO σ H0 tl lo) (hh : LitO σ H0 th hi) : Lit σ H0 (tSl (rSlL K) t tl th) (.lst (cutD ds lo hi)) := fun H Q s q => h H _ s fun H1 v s1 r1 => hl H1 _ (s.trans s1) (hh H1 _ (s.trans s1) (by
  cases r1 with
  | lst e p => exact ⟨_, _, rfl, .of e, fun a na => q _ _ (s1.trans (same_upd na)) (.lst upd_same (rps_same (same_upd na) (paired_cut p)))⟩))
theorem lit_revL {t : TE} {ds : List Dat} (h : Lit σ H0 t (.lst ds)) : Lit σ H0 (tRevL K t) (.lst ds.reverse) := fun H Q s q => h H _ s fun H1 v s1 r1 => by
  cases r1 with
  | lst e p => exact ⟨_, _, rfl, .of e, fun a na => q _ _ (s1.trans (same_upd na)) (.lst upd_same (rps_same (same_upd na) (paired_rev p)))⟩
end
/-! ### what may be asked of such a list -/
def El (e : Dat) : Prop := e.nk = true ∧ Nice 700 2 e.py ∧ (∀ q, e.parts = some q → q.length ≤ 1000) ∧ e.calm = true
def odds : List Dat := [.tup [.int 0, .int 1], .tup [.int 1, .int 0], .tup [.int 0, .int 1, .int 2], .tup [.int 0], .non, .str "pair", .tup [.int 0, .non], .tup [.bl false, .int 1], .tup [.int 0, .bl true], .lst [.int 0, .int 1], .int 7, .tup [.int (-1), .int 1]]
def elB (e : Dat) : Bool := e.nk && e.py.canLay0 && decide (e.py.depth ≤ 2) && e.py.showable && e.py.leavesShort 100 && decide (e.py.weight ≤ 700) && e.calm && (match e.parts with | some q => decide (q.length ≤ 1000) | none => true)
theorem el_of {e : Dat} (h : elB e = true) : El e := by
  unfold elB at h
  simp only [Bool.and_eq_true, decide_eq_true_eq] at h
  obtain ⟨⟨⟨⟨⟨⟨⟨h1, h2⟩, h3⟩, h4⟩, h5⟩, h6⟩, h7⟩, h8⟩ := h
  refine ⟨h1, ⟨h2, h3, h4, h5, h6⟩, fun q hq => ?_, h7⟩
  rw [hq] at h8
  exact of_decide_eq_true h8
theorem odds_ok : ∀ e ∈ odds, elB e = true := by decide +kernel
theorem odds_calm : (Dat.lst odds).calm = true := by decide +kernel
theorem el_prD {p : Pr} (h1 : p.1.natAbs < 10 ^ 60) (h2 : p.2.natAbs < 10 ^ 60) : El (prD p) := by
  refine ⟨rfl, ?_, fun q hq => ?_, rfl⟩
  · have : (prD p).py = .tuple [.int p.1, .int p.2] := by
      unfold prD
      rw [Dat.py, Dat.pys, Dat.pys, Dat.pys, Dat.py, Dat.py]
    rw [this]
    refine (nice_tup (w := 201) (n := 0) fun d hd => ?_).mono (Nat.le_of_ble_eq_true rfl) (by decide)
    rcases List.mem_cons.mp hd with e | e
    · rw [e]
      exact nice_int h1
    · rw [List.mem_singleton.mp e]
      exact nice_int h2
  · cases hq
    exact Nat.le_of_ble_eq_true rfl
theorem three_of {l : List Dat} (h : Dat.three l = true) : ∃ x y z, l = [.int x, .int y, .int z] := by
  unfold Dat.three at h
  split at h
  · exact ⟨_, _, _, rfl⟩
  · cases h
theorem not_three {l : List Dat} {e : Dat} (hm : e ∈ l) (he : e.isI = false) : Dat.three l = false := by
  cases h : Dat.three l with
  | false => rfl
  | true =>
    obtain ⟨x, y, z, rfl⟩ := three_of h
    simp only [List.mem_cons, List.not_mem_nil, or_false] at hm
    rcases hm with e | e | e <;> rw [e] at he <;> cases he
theorem not_three_all {l : List Dat} (h : ∀ e ∈ l, e.isI = false) : Dat.three l = false := by
  cases l with
  | nil => rfl
  | cons x t => exact not_three (List.mem_cons_self ..) (h x (List.mem_cons_self ..))
theorem not_three_odd {a b : List Dat} {o : Dat} (ha : ∀ e ∈ a, e.isI = false) (hb : ∀ e ∈ b, e.isI = false) : Dat.three (a ++ [o] ++ b) = false := by
  cases a with
  | cons x t => exact not_three (e := x) (by simp) (ha x (List.mem_cons_self ..))
  | nil =>
    cases b with
    | cons x t => exact not_three (e := x) (by simp) (hb x (List.mem_cons_self ..))
    | nil => cases o <;> rfl
theorem calms_of : ∀ {l : List Dat}, (∀ e ∈ l, e.calm = true) → Dat.calms l = true
  | [], _ => rfl
  | x :: t, h => by
    rw [Dat.calms, h x (List.mem_cons_self ..), calms_of fun e he => h e (List.mem_cons_of_mem _ he)]
    rfl
theorem calm_lst {l : List Dat} (h : ∀ e ∈ l, e.calm = true) (h3 : Dat.three l = false) : (Dat.lst l).calm = true := by
  rw [Dat.calm, h3, calms_of h]
  rfl
/-- a value that is asked about -/
def Vd (d : Dat) : Prop := (d = .non ∨ d = .int 0 ∨ d = .dic ∨ d = .str "" ∨ d = .tup [] ∨ d = .bl true) ∨
  ∃ l w, d = .lst l ∧ l.length ≤ 1000 ∧ (w + 1) * l.length ≤ 150000 ∧ ∀ e ∈ l, e.nk = true ∧ Nice w 2 e.py ∧ ∀ q, e.parts = some q → q.length ≤ 1000
theorem vd_lst {l : List Dat} (h : ∀ e ∈ l, El e) (hl : l.length ≤ 210) : Vd (.lst l) := .inr ⟨l, 700, rfl, by omega, by omega, fun e he => ⟨(h e he).1, (h e he).2.1, (h e he).2.2.1⟩⟩
theorem pys_map : ∀ (l : List Dat), Dat.pys l = l.map Dat.py
  | [] => by rw [Dat.pys]; rfl
  | x :: t => by rw [Dat.pys, pys_map t]; rfl
theorem nks_of : ∀ {l : List Dat}, (∀ e ∈ l, e.nk = true) → Dat.nks l = true
  | [], _ => by rw [Dat.nks]
  | x :: t, h => by rw [Dat.nks, h x (List.mem_cons_self ..), nks_of fun e he => h e (List.mem_cons_of_mem _ he)]; rfl
theorem vd_nest {P : List Dat} (h : ∀ e ∈ P, e.nk = true ∧ Nice 404 1 e.py) (hl : P.length ≤ 100) : Vd (.lst [.lst P]) := by
  refine .inr ⟨_, 45000, rfl, Nat.le_of_ble_eq_true rfl, Nat.le_of_ble_eq_true rfl, fun e he => ?_⟩
  rw [List.mem_singleton.mp he]
  refine ⟨?_, ?_, fun q hq => ?_⟩
  · rw [Dat.nk]
    exact nks_of fun e he => (h e he).1
  · rw [Dat.py, pys_map]
    refine (nice_list (w := 404) (n := 1) fun d hd => ?_).mono (by rw [List.length_map]; omega) (Nat.le_refl _)
    obtain ⟨x, hx, rfl⟩ := List.mem_map.mp hd
    exact (h x hx).2
  · cases hq
    omega
theorem nice_prD {p : Pr} (h1 : p.1.natAbs < 10 ^ 60) (h2 : p.2.natAbs < 10 ^ 60) : (prD p).nk = true ∧ Nice 404 1 (prD p).py := by
  refine ⟨rfl, ?_⟩
  have : (prD p).py = .tuple [.int p.1, .int p.2] := by
    unfold prD
    rw [Dat.py, Dat.pys, Dat.pys, Dat.pys, Dat.py, Dat.py]
  rw [this]
  refine (nice_tup (w := 201) (n := 0) fun d hd => ?_).mono (Nat.le_of_ble_eq_true rfl) (by decide)
  rcases List.mem_cons.mp hd with e | e
  · rw [e]
    exact nice_int h1
  · rw [List.mem_singleton.mp e]
    exact nice_int h2
/-! ### the menu -/
def menuA (P : List Dat) (k : Int) (o : Dat) : List Dat := [.lst (cutD P none (some k) ++ [o] ++ cutD P (some k) none), .lst (cutD P none (some k) ++ [o] ++ cutD P (some (k + 1)) none), .lst (cutD P none (some k) ++ cutD P (some (k + 1)) none)]
def menuB (P R : List Dat) : List Dat := [.lst P.reverse, .lst (P ++ cutD P (some (-1)) none), .lst R, .lst (cutD P (some 1) none ++ cutD P none (some 1))]
def menuC (P : List Dat) : List Dat := [.non, .int 0, .dic, .str "", .lst [.lst P], .tup [], .bl true]
def menu (P R : List Dat) (k : Int) (o : Dat) : List Dat := menuA P k o ++ menuB P R ++ menuC P
theorem menu_ok {P R : List Dat} {k : Int} {o d : Dat} (hP : ∀ e ∈ P, El e ∧ e.isI = false) (hN : ∀ e ∈ P, e.nk = true ∧ Nice 404 1 e.py) (hR : ∀ e ∈ R, El e ∧ e.isI = false) (ho : El o) (lP : P.length ≤ 100) (lR : R.length ≤ 100) (hd : d ∈ menu P R k o) : Vd d ∧ d.calm = true := by
  have cl := cutD_len P
  have cm : ∀ {lo hi e}, e ∈ cutD P lo hi → El e ∧ e.isI = false := fun h => hP _ (cutD_mem h)
  have plain : ∀ {l : List Dat}, l.length ≤ 210 → (∀ e ∈ l, El e ∧ e.isI = false) → Vd (.lst l) ∧ (Dat.lst l).calm = true := fun hl h =>
    ⟨vd_lst (fun e he => (h e he).1) hl, calm_lst (fun e he => (h e he).1.2.2.2) (not_three_all fun e he => (h e he).2)⟩
  have odd : ∀ {a b : List Dat}, a.length ≤ 100 → b.length ≤ 100 → (∀ e ∈ a, El e ∧ e.isI = false) → (∀ e ∈ b, El e ∧ e.isI = false) → Vd (.lst (a ++ [o] ++ b)) ∧ (Dat.lst (a ++ [o] ++ b)).calm = true := fun {a b} la lb ha hb => by
    have all : ∀ e ∈ a ++ [o] ++ b, El e := fun e he => by
      rcases List.mem_append.mp he with he | he
      · rcases List.mem_append.mp he with he | he
        · exact (ha e he).1
        · rw [List.mem_singleton.mp he]
          exact ho
      · exact (hb e he).1
    exact ⟨vd_lst all (by simp only [List.length_append, List.length_singleton]; omega), calm_lst (fun e he => (all e he).2.2.2) (not_three_odd (fun e he => (ha e he).2) fun e he => (hb e he).2)⟩
  have app : ∀ {a b : List Dat}, (∀ e ∈ a, El e ∧ e.isI = false) → (∀ e ∈ b, El e ∧ e.isI = false) → ∀ e ∈ a ++ b, El e ∧ e.isI = false := fun ha hb e he => (List.mem_append.mp he).elim (ha e) (hb e)
  have l2 : ∀ {a b : List Dat}, a.length ≤ P.length → b.length ≤ P.length → (a ++ b).length ≤ 210 := fun la lb => by
    rw [List.length_append]
    omega
  unfold menu menuA menuB menuC at hd
  simp only [List.mem_append, List.mem_cons, List.not_mem_nil, or_false] at hd
  rcases hd with ((e | e | e) | (e | e | e | e)) | (e | e | e | e | e | e | e) <;> rw [e]
  · exact odd (Nat.le_trans (cl ..) lP) (Nat.le_trans (cl ..) lP) (fun _ => cm) (fun _ => cm)
  · exact odd (Nat.le_trans (cl ..) lP) (Nat.le_trans (cl ..) lP) (fun _ => cm) (fun _ => cm)
  · exact plain (l2 (cl ..) (cl ..)) (app (fun _ => cm) (fun _ => cm))
  · exact plain (by rw [List.length_reverse]; omega) (fun e he => hP e (List.mem_reverse.mp he))
  · exact plain (l2 (Nat.le_refl _) (cl ..)) (app hP (fun _ => cm))
  · exact plain (by omega) hR
  · exact plain (l2 (cl ..) (cl ..)) (app (fun _ => cm) (fun _ => cm))
  · exact ⟨.inl (.inl rfl), rfl⟩
  · exact ⟨.inl (.inr (.inl rfl)), rfl⟩
  · exact ⟨.inl (.inr (.inr (.inl rfl))), rfl⟩
  · exact ⟨.inl (.inr (.inr (.inr (.inl rfl)))), rfl⟩
  · refine ⟨vd_nest hN lP, calm_lst (fun e he => ?_) rfl⟩
    rw [List.mem_singleton.mp he]
    exact calm_lst (fun e he => (hP e he).1.2.2.2) (not_three_all fun e he => (hP e he).2)
  · exact ⟨.inl (.inr (.inr (.inr (.inr (.inl rfl))))), rfl⟩
  · exact ⟨.inl (.inr (.inr (.inr (.inr (.inr rfl))))), rfl⟩
end UP

set_option Elab.async false
set_option linter.all false
set_option maxRecDepth 100000
set_option maxHeartbeats 4000000
set_option pp.maxSteps 600
namespace UP
open PySem PySem.Spec PyProof.Rows L2
def swP (p : Pr) : Pr := (p.2, p.1)
section
variable {P : Program} {w : World} {K : PySem.W.Frag} {mg : Str → Option Value} {base : Heap}
/-! _law_changed: slots 0:spring 1:pairs 2:at 3:odd 4:some 5:pair -/
abbrev s_law_changed : Stmt := topS 43
theorem sc_law_changed : FnScope ["spring", "pairs", "at", "odd", "some", "pair"] ["spring", "pairs"] (defScope s_law_changed) := ⟨rfl, rfl, rfl, by decide +kernel, rfl, by decide +kernel, by decide +kernel⟩
def sp_law_changed : Sp := fun vs H Q _ => ∃ (sp M : Addr) (ps : List Pr), vs = [.ref sp, .ref M] ∧ Spr H sp ∧ Rngs H M ps ∧ ps.length ≤ 100 ∧ (∀ p ∈ ps, 0 ≤ p.1 ∧ p.1 ≤ 1000000 ∧ 0 ≤ p.2 ∧ p.2 ≤ 1000000) ∧ ∀ H' v d, But sp H H' → Spr H' sp → Rp H' v d → Vd d → d.calm = true → Q v H'
theorem ok_law_changed (D : Df K mg "_law_changed" s_law_changed) (T : Tx mg) (G_law_draw : Has P w K mg base 1 "_law_draw" ["spring", "many"] sp_law_draw) : Has P w K mg base 2 "_law_changed" ["spring", "pairs"] sp_law_changed := by
  refine has_of D sc_law_changed (fun _ _ _ _ _ _ us hl => match us, hl with | [_, _], _ => rfl) (fun vs H Q E h => ?_) (fun f cdv A outer s H vs Q E hr h => ?_)
  · obtain ⟨_, _, _, rfl, _⟩ := h
    rfl
  · obtain ⟨sp, M, ps, rfl, z0, hM, l1, bd, q⟩ := h
    have big : ∀ {x : Int}, 0 ≤ x → x ≤ 1000000 → x.natAbs < 10 ^ 60 := fun h1 h2 => Nat.lt_of_le_of_lt (m := 1000000) (by omega) (by decide)
    have eP : ∀ e ∈ ps.map prD, El e ∧ e.isI = false := fun e he => by
      obtain ⟨p, hp, rfl⟩ := List.mem_map.mp he
      have b := bd p hp
      exact ⟨el_prD (big b.1 b.2.1) (big b.2.2.1 b.2.2.2), rfl⟩
    have eN : ∀ e ∈ ps.map prD, e.nk = true ∧ Nice 404 1 e.py := fun e he => by
      obtain ⟨p, hp, rfl⟩ := List.mem_map.mp he
      have b := bd p hp
      exact nice_prD (big b.1 b.2.1) (big b.2.2.1 b.2.2.2)
    have eR : ∀ e ∈ (ps.map swP).map prD, El e ∧ e.isI = false := fun e he => by
      obtain ⟨p', hp', rfl⟩ := List.mem_map.mp he
      obtain ⟨p, hp, rfl⟩ := List.mem_map.mp hp'
      have b := bd p hp
      exact ⟨el_prD (p := swP p) (big b.2.2.1 b.2.2.2) (big b.1 b.2.1), rfl⟩
    have lP : (ps.map prD).length ≤ 100 := by rw [List.length_map]; exact l1
    have lR : ((ps.map swP).map prD).length ≤ 100 := by rw [List.length_map, List.length_map]; exact l1
    have cl : ∀ lo hi, (cutD (ps.map prD) lo hi).length ≤ 100 := fun lo hi => Nat.le_trans (cutD_len ..) lP
    refine ⟨_, (pss_cons (ps_set (i := 2) sc_law_changed.nd rfl (by first | exact Or.inl rfl | exact Or.inr rfl) (pe_callH G_law_draw (hr.mono (by omega)) (by rfl) (pa_cons (pv 0) (pa_cons (pe_op op_add (pe_callB call_len_seq (by rfl) T.n_len (by decide +kernel) (pa_cons (pv 1) pa_nil)) pe_int) pa_nil))))
    (pss_cons (ps_set (i := 3) sc_law_changed.nd rfl (by first | exact Or.inl rfl | exact Or.inr rfl) (pe_lst (pa_cons (pe_tup (pa_cons pe_int (pa_cons pe_int pa_nil))) (pa_cons (pe_tup (pa_cons pe_int (pa_cons pe_int pa_nil))) (pa_cons (pe_tup (pa_cons pe_int (pa_cons pe_int (pa_cons pe_int pa_nil)))) (pa_cons (pe_tup (pa_cons pe_int pa_nil)) (pa_cons pe_non (pa_cons pe_str (pa_cons (pe_tup (pa_cons pe_int (pa_cons pe_non pa_nil))) (pa_cons (pe_tup (pa_cons pe_bl (pa_cons pe_int pa_nil))) (pa_cons (pe_tup (pa_cons pe_int (pa_cons pe_bl pa_nil))) (pa_cons (pe_lst (pa_cons pe_int (pa_cons pe_int pa_nil))) (pa_cons pe_int (pa_cons (pe_tup (pa_cons (pe_un un_neg pe_int) (pa_cons pe_int pa_nil))) pa_nil))))))))))))))
    (pss_cons (ps_set (i := 3) sc_law_changed.nd rfl (by first | exact Or.inl rfl | exact Or.inr rfl) (pe_ix ix_list (pv 3) (pe_callH G_law_draw (hr.mono (by omega)) (by rfl) (pa_cons (pv 0) (pa_cons pe_int pa_nil))) (fun _ _ => rfl)))
    (pss_cons (ps_set (i := 4) sc_law_changed.nd rfl (by first | exact Or.inl rfl | exact Or.inr rfl) (pe_lst (pa_cons (pe_op op_cat (pe_op op_cat (pe_slice sl_list (pv 1) po_none (po_some (pv 2))) (pe_lst (pa_cons (pv 3) pa_nil))) (pe_slice sl_list (pv 1) (po_some (pv 2)) po_none)) (pa_cons (pe_op op_cat (pe_op op_cat (pe_slice sl_list (pv 1) po_none (po_some (pv 2))) (pe_lst (pa_cons (pv 3) pa_nil))) (pe_slice sl_list (pv 1) (po_some (pe_op op_add (pv 2) pe_int)) po_none)) (pa_cons (pe_op op_cat (pe_slice sl_list (pv 1) po_none (po_some (pv 2))) (pe_slice sl_list (pv 1) (po_some (pe_op op_add (pv 2) pe_int)) po_none)) pa_nil)))))
    (pss_cons (ps_set (i := 4) sc_law_changed.nd rfl (by first | exact Or.inl rfl | exact Or.inr rfl) (pe_op op_cat (pv 4) (pe_lst (pa_cons (pe_revL (pv 1)) (pa_cons (pe_op op_cat (pv 1) (pe_slice sl_list (pv 1) (po_some (pe_un un_neg pe_int)) po_none)) (pa_cons (pe_lc (own := [("pair", 5)]) rfl sc_law_changed.nd (pi_list (pv 1)) (blkOk_by (N := ["spring", "pairs", "at", "odd", "some", "pair"]) (sc := defScope s_law_changed) (by decide +kernel)) (fun _ _ _ _ _ => (pg_name (i := 5) sc_law_changed.nd rfl (by first | exact Or.inl rfl | exact Or.inr rfl))) (fun _ _ _ _ _ => pts_nil) (fun _ _ _ _ _ => (pe_revT (K := K) rfl (pv 5)))) (pa_cons (pe_op op_cat (pe_slice sl_list (pv 1) (po_some pe_int) po_none) (pe_slice sl_list (pv 1) po_none (po_some pe_int))) pa_nil)))))))
    (pss_one (ps_ret (pe_ix ix_list (pe_op op_cat (pv 4) (pe_lst (pa_cons pe_non (pa_cons pe_int (pa_cons pe_dnewK (pa_cons pe_str (pa_cons (pe_lst (pa_cons (pv 1) pa_nil)) (pa_cons (pe_tup pa_nil) (pa_cons pe_bl pa_nil))))))))) (pe_callH G_law_draw (hr.mono (by omega)) (by rfl) (pa_cons (pv 0) (pa_cons pe_int pa_nil))) (fun _ _ => rfl))))))))), ?_⟩
    obtain ⟨xs, hx, hp⟩ := id hM
    have lx : xs.length = ps.length := Paired.len hp
    refine ⟨_, rfl, _, rfl, M, xs, rfl, .inl (.of hx), _, _, rfl, rfl, sp, _, rfl, z0, by omega, wide8 (by omega) (by omega), fun H1 k b1 z1 k0 k1 => ?_⟩
    have hM1 := hM.but z0 b1
    clear hM hx hp lx
    -- the odd ones
    refine lit_set (d := .lst odds) (lit_lst (lits_cons (lit_tup (lits_cons lit_int (lits_cons lit_int lits_nil)) (Nat.le_of_ble_eq_true rfl)) (lits_cons (lit_tup (lits_cons lit_int (lits_cons lit_int lits_nil)) (Nat.le_of_ble_eq_true rfl)) (lits_cons (lit_tup (lits_cons lit_int (lits_cons lit_int (lits_cons lit_int lits_nil))) (Nat.le_of_ble_eq_true rfl)) (lits_cons (lit_tup (lits_cons lit_int lits_nil) (Nat.le_of_ble_eq_true rfl)) (lits_cons lit_non (lits_cons lit_str (lits_cons (lit_tup (lits_cons lit_int (lits_cons lit_non lits_nil)) (Nat.le_of_ble_eq_true rfl)) (lits_cons (lit_tup (lits_cons lit_bl (lits_cons lit_int lits_nil)) (Nat.le_of_ble_eq_true rfl)) (lits_cons (lit_tup (lits_cons lit_int (lits_cons lit_bl lits_nil)) (Nat.le_of_ble_eq_true rfl)) (lits_cons (lit_lst (lits_cons lit_int (lits_cons lit_int lits_nil)) (Nat.le_of_ble_eq_true rfl)) (lits_cons lit_int (lits_cons (lit_tup (lits_cons lit_neg (lits_cons lit_int lits_nil)) (Nat.le_of_ble_eq_true rfl)) lits_nil)))))))))))) (Nat.le_of_ble_eq_true rfl)) (fun H2 v2 s2 r2 => ?_)
    have z2 := z1.same s2
    have hM2 := hM1.same s2
    refine ⟨_, rfl, _, rfl, sp, 12, rfl, z2, by decide, by decide, fun H3 r b3 z3 r0 r1 => ?_⟩
    obtain ⟨a3, xs3, o3, rfl, e3, ea3, ro⟩ := rp_at (r2.butS z2 b3 odds_calm) r0 (show r.toNat < odds.length by show r.toNat < 12; omega)
    refine ⟨a3, xs3, r, o3, rfl, rfl, .of e3, ea3, ?_⟩
    have lt : r.toNat < odds.length := by show r.toNat < 12; omega
    have eo := el_of (odds_ok (odds[r.toNat]'lt) (List.getElem_mem lt))
    have ro : Rp H3 o3 (odds[r.toNat]'lt) := ro
    generalize odds[r.toNat]'lt = o at *
    have hM3 := hM2.but z2 b3
    have rM := rp_rngs hM3
    clear r2 hM1 hM2 e3 ea3 lt
    -- the lists
    refine lit_set (d := .lst (menuA (ps.map prD) k o)) (lit_lst (lits_cons (lit_cat (lit_cat (lit_cut (lit_var rfl rM) lito_none (lito_var rfl)) (lit_lst (lits_cons (lit_var rfl ro) lits_nil) (Nat.le_of_ble_eq_true rfl)) (by have := cl none (some k); rw [List.length_singleton]; omega)) (lit_cut (lit_var rfl rM) (lito_var rfl) lito_none) (by have h1 := cl none (some k); have h2 := cl (some k) none; rw [List.length_append, List.length_singleton]; omega)) (lits_cons (lit_cat (lit_cat (lit_cut (lit_var rfl rM) lito_none (lito_var rfl)) (lit_lst (lits_cons (lit_var rfl ro) lits_nil) (Nat.le_of_ble_eq_true rfl)) (by have := cl none (some k); rw [List.length_singleton]; omega)) (lit_cut (lit_var rfl rM) (lito_add rfl) lito_none) (by have h1 := cl none (some k); have h2 := cl (some (k + 1)) none; rw [List.length_append, List.length_singleton]; omega)) (lits_cons (lit_cat (lit_cut (lit_var rfl rM) lito_none (lito_var rfl)) (lit_cut (lit_var rfl rM) (lito_add rfl) lito_none) (by have h1 := cl none (some k); have h2 := cl (some (k + 1)) none; omega)) lits_nil))) (Nat.le_of_ble_eq_true rfl)) (fun H4 v4 s4 r4 => ?_)
    have hM4 := hM3.same s4
    have rM4 := rp_rngs hM4
    have z4 := z3.same s4
    obtain ⟨xs, hx, hp⟩ := id hM4
    have lx : xs.length = ps.length := Paired.len hp
    have rev : ∀ {t : TE} {σ : L2.St}, (∀ H (Q : VK), Same H4 H → (∀ L H', H L = none → Same H H' → (∃ ws, H' L = some (.lst ws) ∧ Paired (PV H') ws (ps.map swP)) → Q (.ref L) H') → t σ H Q) → Lit σ H4 t (.lst ((ps.map swP).map prD)) := fun {t σ} g H Q s q => g H Q s fun L H' nL s' hw => q H' _ s' (rp_rngs hw)
    refine lit_set (d := .lst (menuA (ps.map prD) k o ++ menuB (ps.map prD) ((ps.map swP).map prD))) (lit_cat (lit_var rfl r4) (lit_lst (lits_cons (lit_revL (lit_var rfl rM4)) (lits_cons (lit_cat (lit_var rfl rM4) (lit_cut (lit_var rfl rM4) lito_neg lito_none) (by have h1 := cl (some (-1)) none; omega)) (lits_cons (rev fun H Q s q => ?rv) (lits_cons (lit_cat (lit_cut (lit_var rfl rM4) lito_int lito_none) (lit_cut (lit_var rfl rM4) lito_none lito_int) (by have h1 := cl (some 1) none; have h2 := cl none (some 1); omega)) lits_nil)))) (Nat.le_of_ble_eq_true rfl)) (Nat.le_of_ble_eq_true rfl)) (fun H5 v5 s5 r5 => ?_)
    case rv =>
      have hx1 := s _ _ hx
      have hp1 := pvs_same s hp
      refine ⟨_, rfl, M, rfl, ⟨xs, .of hx1⟩, fun L nL => lc_list (K := K) (a := M) (xs := xs) (fun i H' => Same H H' ∧ ∃ ws, H' L = some (.lst ws) ∧ Paired (PV H') ws ((ps.map swP).take i)) ⟨same_upd nL, [], upd_same, .nil⟩ (fun i H' _ p => .of (p.1 _ _ hx1)) (fun i x H2 ex hP => ?_) (fun H2 hP => ?_)⟩
      · obtain ⟨sm, ws, hL, hw⟩ := hP
        obtain ⟨r, er, hr1⟩ := Paired.at hp1 ex
        obtain ⟨tp, rfl, htp⟩ := PV.same sm hr1
        have hi : i < xs.length := (List.getElem?_eq_some_iff.mp ex).1
        refine ⟨rfl, yesT ⟨_, rfl, tp, _, _, rfl, .of htp, fun u nu => ⟨_, same_upd nu _ _ hL, ?_, same_grow nL (sm.trans (same_upd nu)), _, upd_same, ?_⟩⟩⟩
        · have := Paired.len hw
          rw [List.length_take] at this
          exact small (by omega)
        · rw [take_snoc (show (ps.map swP)[i]? = some (swP r) by rw [List.getElem?_map, er]; rfl)]
          exact Paired.app (pvs_grow (same_upd nu _ _ hL) (pvs_same (same_upd nu) hw)) (.cons (PV.grow (same_upd nu _ _ hL) ⟨u, rfl, upd_same⟩) .nil)
      · obtain ⟨sm, ws, hL, hw⟩ := hP
        rw [List.take_of_length_le (by rw [List.length_map]; omega)] at hw
        exact q L _ nL sm ⟨ws, hL, hw⟩
    have rM5 := rM4.same s5
    have z5 := z4.same s5
    refine lit_retIx (ds := menu (ps.map prD) ((ps.map swP).map prD) k o) (lit_cat (lit_var rfl r5) (lit_lst (lits_cons lit_non (lits_cons lit_int (lits_cons lit_dic (lits_cons lit_str (lits_cons (lit_lst (lits_cons (lit_var rfl rM5) lits_nil) (Nat.le_of_ble_eq_true rfl)) (lits_cons (lit_tup lits_nil (Nat.le_of_ble_eq_true rfl)) (lits_cons lit_bl lits_nil))))))) (Nat.le_of_ble_eq_true rfl)) (Nat.le_of_ble_eq_true rfl)) (fun H6 v6 s6 r6 => ?_)
    have z6 := z5.same s6
    have ok : ∀ d ∈ menu (ps.map prD) ((ps.map swP).map prD) k o, Vd d ∧ d.calm = true := fun d hd => menu_ok eP eN eR eo lP lR hd
    have lm : (menu (ps.map prD) ((ps.map swP).map prD) k o).length = 14 := rfl
    have nm : Dat.non ∈ menu (ps.map prD) ((ps.map swP).map prD) k o := List.mem_append.mpr (.inr (List.mem_cons_self ..))
    generalize menu (ps.map prD) ((ps.map swP).map prD) k o = F at *
    refine ⟨_, rfl, sp, 14, rfl, z6, by decide, by decide, fun H7 r b7 z7 r0 r1 => ?_⟩
    obtain ⟨a7, xs7, x7, rfl, e7, ea7, rx⟩ := rp_at (r6.butS z6 b7 (calm_lst (fun e he => (ok e he).2) (not_three nm rfl))) r0 (show r.toNat < F.length by omega)
    have okx := ok _ (List.getElem_mem (show r.toNat < F.length by omega))
    exact ⟨a7, xs7, r, x7, rfl, rfl, .of e7, ea7, q _ _ _ (b1.trans ((Same.but s2).trans (b3.trans ((Same.but (s4.trans (s5.trans s6))).trans b7)))) z7 rx okx.1 okx.2⟩
end
end UP

set_option Elab.async false
set_option linter.all false
set_option maxRecDepth 100000
set_option maxHeartbeats 4000000
set_option pp.maxSteps 300
namespace UP
open PySem PySem.Spec PyProof.Rows L2
/-! ### defs that call repr: no other repr is under way around them -/
structure FnG (P : Program) (w : World) (K : PySem.W.Frag) (mg : Str → Option Value) (base : Heap) (k : Nat) (f : Addr) (fd : FuncData) (ps : List Str) (sp : Sp) : Prop where
  len : ∀ vs H Q E, sp vs H Q E → vs.length = ps.length
  run : ∀ (A : Around) (outer : List Env) (s : Shared) (H : Hp) (args : Args) (us : List Value) (vs : List V) (Q : VK) (E : XK), Room k A → A.guards = some [] → Env0 P w K mg base A outer s H → BindsTo s fd args (ps.zip us) → Vals vs us → sp vs H Q E →
    codeAny (model P w) A (.call (.ref f) args) (CR CX0 outer P w H s Q E) s
def HasG (P : Program) (w : World) (K : PySem.W.Frag) (mg : Str → Option Value) (base : Heap) (k : Nat) (x : Str) (ps : List Str) (sp : Sp) : Prop :=
  ∃ f fd, mg x = some (.ref f) ∧ PySem.W.keepIn K (.ref f) = true ∧ Binds K fd ps [] ∧ FnG P w K mg base k f fd ps sp
section
variable {P : Program} {w : World} {K : PySem.W.Frag} {mg : Str → Option Value} {base : Heap}
theorem hasG_of {x : Str} {st : Stmt} {ps N : List Str} {k : Nat} {sp : Sp} (D : Df K mg x st) (S : FnScope N ps (defScope st))
    (hb : ∀ (kV doc pm : Value) (an : Option Addr) (cdv ct : Value) (us : List Value), us.length = ps.length → bindArgs (PySem.W.fnOf x x (defArgs st) (defBody st) (defScope st) .none kV doc pm an cdv ct) ⟨us, []⟩ = pure (ps.zip us))
    (len : ∀ vs H Q E, sp vs H Q E → vs.length = ps.length)
    (body : ∀ (f : Addr) (cdv : Value) (A : Around) (outer : List Env) (s : Shared) (H : Hp) (vs : List V) (Q : VK) (E : XK), Room k (A.deeper (envOfC x (defScope st) s.heap.objs.size f cdv)) → A.guards = some [] → sp vs H Q E →
      ∃ t, PSs (cxOf CX0 P w K mg base N x (defScope st) f cdv A outer s H E).nox (defBody st) t ∧ t { nx := fun _ H' => Q .non H', rt := Q } (start N vs) H) :
    HasG P w K mg base (k + 1) x ps sp := by
  obtain ⟨f, fd, g, F⟩ := D
  refine ⟨f, fd, g, F.kp, F.binds hb, len, ?_⟩
  obtain ⟨oc, od, kV, doc, pm, an, cdv, ct, osl, rfl, lk, hcd⟩ := F.ex
  intro A out s H args us vs Q E hr gd e0 hb rv hsp
  have inS : K.In s.heap := e0.mod.kin.keeps fun b o z => (e0.bs b o z).1
  have noL : s.heap.NoLimit := e0.mod.nolimit.keeps fun b o z => (e0.bs b o z).1
  have kinds : ∀ y ∈ ps.zip us, (defScope st).names.lookup y.1 = some .local ∨ ((defScope st).names.lookup y.1 = some .cell ∧ ((cellsFrom (s.heap.objs.size + 1) (defScope st).names []).lookup y.1).isSome = true) := by
    intro y hy
    rcases S.par y.1 (List.of_mem_zip (a := y.1) (b := y.2) hy).1 with z | z
    · exact Or.inl z
    · exact Or.inr ⟨z, PySem.W.cellsFrom_some _ _ _ (Or.inl z)⟩
  refine codeAny_call_function hr.depth (inS _ _ lk) rfl S.co S.gen rfl (PySem.W.codeRec_of inS hcd) (hb _ _ _ _ ?_)
  refine wpAny_newFunctionEnv_cells S.kind kinds fun env he s1 inC => ?_
  subst he
  refine ⟨noL.keeps inC.toInCall.keep, codeAny_func ?_⟩
  obtain ⟨t, ht0, hq⟩ := body f cdv A out s H vs Q E (hr.deeper _) gd hsp
  have ht := PSs.nox ht0
  have I0 : Inv (cxOf CX0 P w K mg base N x (defScope st) f cdv A out s H E) [] (start N vs) H s1 := inv_start S hr.hd e0 (len _ _ _ _ hsp) rv inC
  refine wpAny_mono (ht.run [] s1 (start N vs) H _ I0 hq) (fun fl s2 h2 => ?_) fun _ _ z => z
  cases fl with
  | next =>
    obtain ⟨σ2, H2, J, q2⟩ := h2
    exact ⟨V.non, H2, J.os, J.bare, J.base, J.hok, rfl, q2⟩
  | ret u =>
    obtain ⟨v, σ2, H2, J, rv2, q2⟩ := h2
    exact ⟨v, H2, J.os, J.bare, J.base, J.hok, rv2, q2⟩
  | brk =>
    obtain ⟨_, _, _, z⟩ := h2
    exact z.elim
  | cont =>
    obtain ⟨_, _, _, z⟩ := h2
    exact z.elim
end
section
variable {X : Cx}
theorem pe_callGH {k : Nat} {x : Str} {ps : List Str} {sp : Sp} {p pos : Pos} {e : Expr} {es : List Expr} {t : TA} (G : HasG X.prog X.w X.K X.mg X.base k x ps sp) (gd : X.A.guards = some []) (hr : Room k X.A) (hg : Gl X x) (ha : PA X (e :: es) t)
    (hdb : (x == ("__debug__" : Str)) = false := by decide) (he : starEach (e :: es) X.env = (false, eval e X.env) :: starEach es X.env := by rfl) (hpl : (backTo pos (starEach es X.env)).any (·.1) = false := by rfl) :
    PE X (.Call (.Name x p) (e :: es) [] pos) (tCall sp [] E0 t) := by
  obtain ⟨f, fd, g, kp, hb, F⟩ := G
  refine ⟨fun pins s σ H Q I h => ?_⟩
  refine wpAny_Call_Name_kw (ld_glob I hg g ?_ hdb)
  refine PySem.W.callWith_K (h₀ := X.base) I.ok.mod.kin kp (thn (ha.run pos pins s σ H _ I h) fun us s1 ⟨vs, H1, I1, r, q⟩ => ⟨I1.kIn, ?_⟩) he hpl
  have r2 : Vals (vs ++ []) (us ++ []) := r.append .nil
  have hl : (us ++ []).length = ps.length := by rw [← r2.length]; exact F.len _ _ _ _ q
  refine wpAny_call (codeAny_mono (F.run X.A X.stack s1 H1 ⟨us, []⟩ (us ++ []) (vs ++ []) Q E0 hr gd I1.env0 (hb s1 us I1.kIn hl) r2 q) fun r s' hq => ?_)
  cases r with
  | error e => exact pass0 pins σ H1 s1 e s' I1 hq
  | ok fl =>
    cases fl with
    | ret u => exact I1.after hq
    | next => exact False.elim hq
    | brk => exact False.elim hq
    | cont => exact False.elim hq
/-- repr of a list, a tuple or None -/
def rReprV (K : PySem.W.Frag) : List V → Hp → VK → Prop := fun xs H Q => (xs = [.non] ∧ Q (.str (PyData.none).shown) H) ∨ rRepr K xs H Q
theorem call_reprV {X : Cx} (hg : X.A.guards = some []) (hu : X.A.units + 70 < cLine) : CallR X (.builtin "repr") (rReprV X.K) := by
  intro pins s σ H xs us Q I r h
  rcases h with ⟨rfl, q⟩ | h
  · obtain ⟨u, rfl, ru⟩ := vals1 r
    obtain rfl : u = Value.none := ru
    exact PySem.P.repr_of_none ⟨.str (PyData.none).shown, H, I.kept (t' := s.toks + 1) (fun _ _ e => e), ⟨s.toks, rfl⟩, q⟩
  · exact call_reprD hg hu pins s σ H xs us Q I r h
end
end UP

set_option Elab.async false
set_option linter.all false
set_option maxRecDepth 100000
set_option maxHeartbeats 4000000
set_option pp.maxSteps 600
namespace UP
open PySem PySem.Spec PyProof.Rows L2
theorem so_none : StOk none := fun r h => by cases h
theorem scR_one (rs : List Run) : scR 1 rs = rs := by
  unfold scR
  refine (List.map_congr_left fun r _ => ?_).trans (List.map_id _)
  show (r.1, r.2 * 1) = r
  rw [Int.mul_one]
/-! ### dressed pairs -/
def dL (p : Pr) : PyData := .list [.int p.1, .int p.2]
theorem sim_prs {H : Hp} {sp a : Addr} {ps : List Pr} (z : Spr H sp) (h : Rngs H a ps) (l : ps.length ≤ 1000) : Sim (· ≠ sp) H 2 (.ref a) (.list (ps.map dL)) := by
  obtain ⟨xs, e, p⟩ := h
  obtain ⟨d, c1, c2, hs, _⟩ := z
  have na : a ≠ sp := ne_of e hs fun q => by
    have q := HO.lst.inj q
    subst q
    cases p with
    | cons h _ =>
      obtain ⟨t, e, _⟩ := h
      cases e
  refine .inr ⟨a, xs, _, rfl, na, .inl e, rfl, ?_, by rw [List.length_map]; exact l⟩
  have gen : ∀ {xs : List V} {ps : List Pr}, Paired (PV H) xs ps → Paired (Sim (· ≠ sp) H 1) xs (ps.map dL) := by
    intro xs ps h
    induction h with
    | nil => exact .nil
    | cons h _ ih =>
      obtain ⟨t, rfl, ht⟩ := h
      exact .cons (.inr ⟨t, _, _, rfl, ne_of ht hs (by intro q; cases q), .inr ht, rfl, .cons (.inr (.inr (.inl ⟨_, rfl, rfl⟩))) (.cons (.inr (.inr (.inl ⟨_, rfl, rfl⟩))) .nil), Nat.le_of_ble_eq_true rfl⟩) ih
  exact gen p
theorem dsc_int {v : V} {x : Int} (h : Dsc v (.int x)) : v = .int x := by
  rcases h with ⟨_, e⟩ | ⟨_, _, e⟩ | ⟨_, h, e⟩ | ⟨_, _, e⟩ <;> cases e
  exact h
theorem sim_pr_out {N : Addr → Prop} {H : Hp} {v : V} {p : Pr} (h : Sim N H 1 v (dL p)) : ∃ e, Rp H v e ∧ e.prO = some p := by
  rcases h with h | ⟨a, xs, ds, rfl, _, hx, e, q, _⟩
  · exact (dsc_lst h).elim
  · cases e
    cases q with
    | cons h1 q =>
      cases q with
      | cons h2 q =>
        cases q
        have h1 := dsc_int h1
        have h2 := dsc_int h2
        subst h1 h2
        rcases hx with hx | hx
        · exact ⟨.lst [.int p.1, .int p.2], .lst hx (.cons (.int _) (.cons (.int _) .nil)), rfl⟩
        · exact ⟨.tup [.int p.1, .int p.2], .tup hx (.cons (.int _) (.cons (.int _) .nil)), rfl⟩
theorem sim_prs_out {N : Addr → Prop} {H : Hp} {v : V} {ps : List Pr} (h : Sim N H 2 v (.list (ps.map dL))) : ∃ d, Rp H v d ∧ d.due ps = true := by
  rcases h with h | ⟨a, xs, ds, rfl, _, hx, e, q, _⟩
  · exact (dsc_lst h).elim
  · cases e
    have gen : ∀ {xs : List V} {ps : List Pr}, Paired (Sim N H 1) xs (ps.map dL) → ∃ l, Paired (Rp H) xs l ∧ l.map Dat.prO = ps.map some := by
      intro xs ps
      induction ps generalizing xs with
      | nil =>
        intro h
        cases h
        exact ⟨[], .nil, rfl⟩
      | cons p t ih =>
        intro h
        cases h with
        | cons h1 h2 =>
          obtain ⟨e, r, ee⟩ := sim_pr_out h1
          obtain ⟨l, rl, el⟩ := ih h2
          exact ⟨e :: l, .cons r rl, by rw [List.map_cons, List.map_cons, ee, el]⟩
    obtain ⟨l, rl, el⟩ := gen q
    rcases hx with hx | hx
    · exact ⟨.lst l, .lst hx rl, decide_eq_true el⟩
    · exact ⟨.tup l, .tup hx rl, decide_eq_true el⟩
theorem due_self (ps : List Pr) : (Dat.lst (ps.map prD)).due ps = true := by
  refine decide_eq_true ?_
  rw [List.map_map]
  rfl
/-! ### repr of what is asked about -/
def Dat.rep : Dat → Str
  | .non => "None"
  | .bl b => if b then "True" else "False"
  | .int n => toString n
  | .str z => reprText z
  | d => d.py.shown
def rReprA : List V → Hp → VK → Prop := fun xs H Q => ∃ (v : V) (d : Dat), xs = [v] ∧ Rp H v d ∧ Vd d ∧ Q (.str d.rep) H
theorem vd_nice {l : List Dat} {w : Nat} (h : (w + 1) * l.length ≤ 150000) (g : ∀ e ∈ l, e.nk = true ∧ Nice w 2 e.py ∧ ∀ q, e.parts = some q → q.length ≤ 1000) : Nice 150000 3 (Dat.lst l).py := by
  rw [Dat.py, pys_map]
  refine (nice_list (w := w) (n := 2) fun d hd => ?_).mono (by rw [List.length_map]; exact h) (Nat.le_refl _)
  obtain ⟨x, hx, rfl⟩ := List.mem_map.mp hd
  exact (g x hx).2.1
theorem call_reprA {X : Cx} (hg : X.A.guards = some []) (hu : X.A.units + 70 < cLine) : CallR X (.builtin "repr") rReprA := by
  intro pins s σ H xs us Q I r h
  obtain ⟨v, d, rfl, hr, vd, q⟩ := h
  rcases vd with (rfl | rfl | rfl | rfl | rfl | rfl) | ⟨l, w, rfl, _, hw, g⟩
  · cases hr
    obtain ⟨u, rfl, ru⟩ := vals1 r
    obtain rfl : u = Value.none := ru
    exact PySem.P.repr_of_none ⟨.str "None", H, I.kept (t' := s.toks + 1) (fun _ _ e => e), ⟨s.toks, rfl⟩, q⟩
  · cases hr
    obtain ⟨u, rfl, ru⟩ := vals1 r
    obtain ⟨t, rfl⟩ := ru
    exact PySem.P.repr_of_int (by decide) ⟨.str _, H, I.kept (t' := s.toks + 1) (fun _ _ e => e), ⟨s.toks, rfl⟩, q⟩
  · obtain ⟨a, ea⟩ : ∃ a, v = .ref a := by
      cases hr with
      | dic e => exact ⟨_, rfl⟩
    subst ea
    exact call_reprR hg hu pins s σ H _ us Q I r ⟨a, .dic, rfl, hr, by decide +kernel, by decide +kernel, by decide +kernel, q⟩
  · cases hr
    obtain ⟨u, rfl, ru⟩ := vals1 r
    obtain ⟨t, rfl⟩ := ru
    exact PySem.P.repr_of_str ⟨.str _, H, I.kept (t' := s.toks + 1) (fun _ _ e => e), ⟨s.toks, rfl⟩, q⟩ (by decide +kernel)
  · obtain ⟨a, ea⟩ : ∃ a, v = .ref a := by
      cases hr with
      | tup e _ => exact ⟨_, rfl⟩
    subst ea
    exact call_reprR hg hu pins s σ H _ us Q I r ⟨a, .tup [], rfl, hr, by decide +kernel, by decide +kernel, by decide +kernel, q⟩
  · cases hr
    obtain ⟨u, rfl, ru⟩ := vals1 r
    cases (show u = Value.bool true from ru)
    exact PySem.P.repr_of_bool ⟨.str _, H, I.kept (t' := s.toks + 1) (fun _ _ e => e), ⟨s.toks, rfl⟩, q⟩
  · obtain ⟨a, ea⟩ : ∃ a, v = .ref a := by
      cases hr with
      | lst e _ => exact ⟨_, rfl⟩
    subst ea
    have n := vd_nice hw g
    obtain ⟨n1, n2, n3⟩ := n.fits (Nat.le_refl _) (by decide)
    exact call_reprR hg hu pins s σ H _ us Q I r ⟨a, .lst l, rfl, hr, n1, Nat.le_trans n.dep (by decide), n3, q⟩
theorem vd_good {d : Dat} (h : Vd d) : ∀ l, d.parts = some l → l.length ≤ 1000 ∧ ∀ e ∈ l, (∀ q, e.parts = some q → q.length ≤ 1000) ∧ e.nk = true ∧ SeqAt.shaped e.py = true := by
  intro l hl
  rcases h with (rfl | rfl | rfl | rfl | rfl | rfl) | ⟨l', w, rfl, l1, hw, g⟩
  · cases hl
  · cases hl
  · cases hl
  · cases hl
  · cases hl
    exact ⟨Nat.zero_le _, fun e he => by cases he⟩
  · cases hl
  · cases hl
    refine ⟨l1, fun e he => ⟨(g e he).2.2, (g e he).1, ((g e he).2.1.fits ?_ (by decide)).2.1⟩⟩
    have : 0 < l.length := List.length_pos_of_mem he
    have := Nat.mul_le_mul_left (w + 1) this
    omega
def Dat.isL : Dat → Bool
  | .lst _ => true
  | _ => false
theorem Rp.isLt {K : PySem.W.Frag} {H : Hp} {v : V} {d : Dat} (h : Rp H v d) : ∃ t, TyX K H v t ∧ PySem.W.kitOne K t (.type "list") = some d.isL := by
  cases h with
  | non => exact ⟨_, .base .non, kit_ty (show kitB "NoneType" "list" = some false by decide +kernel)⟩
  | bl b => exact ⟨_, .base (.bl b), kit_ty (show kitB "bool" "list" = some false by decide +kernel)⟩
  | int n => exact ⟨_, .base (.int n), kit_ty (show kitB "int" "list" = some false by decide +kernel)⟩
  | str z => exact ⟨_, .base (.str z), kit_ty (show kitB "str" "list" = some false by decide +kernel)⟩
  | dic e => exact ⟨_, .base (.dK e), kit_ty (show kitB "dict" "list" = some false by decide +kernel)⟩
  | lst e _ => exact ⟨_, .base (.lst e), kit_ty (show kitB "list" "list" = some true by decide +kernel)⟩
  | tup e _ => exact ⟨_, .base (.tup e), kit_ty (show kitB "tuple" "list" = some false by decide +kernel)⟩
theorem vd_isL {d : Dat} (h : Vd d) (e : d.isL = true) : ∃ l w, d = .lst l ∧ l.length ≤ 1000 ∧ (w + 1) * l.length ≤ 150000 ∧ ∀ e ∈ l, e.nk = true ∧ Nice w 2 e.py ∧ ∀ q, e.parts = some q → q.length ≤ 1000 := by
  rcases h with (rfl | rfl | rfl | rfl | rfl | rfl) | h
  all_goals first | exact h | cases e
theorem vd_cut {l : List Dat} {w : Nat} {lo hi : Option Int} (h1 : l.length ≤ 1000) (h2 : (w + 1) * l.length ≤ 150000) (h3 : ∀ e ∈ l, e.nk = true ∧ Nice w 2 e.py ∧ ∀ q, e.parts = some q → q.length ≤ 1000) : Vd (.lst (cutD l lo hi)) :=
  .inr ⟨_, w, rfl, Nat.le_trans (cutD_len ..) h1, Nat.le_trans (Nat.mul_le_mul_left _ (cutD_len ..)) h2, fun e he => h3 e (cutD_mem he)⟩
section
variable {P : Program} {w : World} {K : PySem.W.Frag} {mg : Str → Option Value} {base : Heap}
/-! _law_right: slots 0:spring 1:sequence 2:handed 3:pairs 4:again 5:value 6:before -/
abbrev s_law_right : Stmt := topS 45
theorem sc_law_right : FnScope ["spring", "sequence", "handed", "pairs", "again", "value", "before"] ["spring", "sequence", "handed"] (defScope s_law_right) := ⟨rfl, rfl, rfl, by decide +kernel, rfl, by decide +kernel, by decide +kernel⟩
def sp_law_right : Sp := fun vs H Q _ => ∃ (sp : Addr) (sv hv : V) (rs : List Run), vs = [.ref sp, sv, hv] ∧ Spr H sp ∧ RunsG H sv rs ∧ RunsG H hv rs ∧ SeqOk rs ∧ (∀ r ∈ rs, r.2 ≤ 1000) ∧ lenR rs ≤ 100 ∧ ∀ H', But sp H H' → Spr H' sp → Q (.bl true) H'
theorem okG_law_right (D : Df K mg "_law_right" s_law_right) (T : Tx mg) (G_law_draw : Has P w K mg base 1 "_law_draw" ["spring", "many"] sp_law_draw) (G_law_play : Has P w K mg base 1 "_law_play" ["sequence", "start"] sp_law_play) (G_law_same : Has P w K mg base 4 "_law_same" ["found", "due"] (sp_law_same 2))
    (G_law_longest : Has P w K mg base 1 "_law_longest" ["pairs", "times"] sp_law_longest) (G_law_changed : Has P w K mg base 2 "_law_changed" ["spring", "pairs"] sp_law_changed) (G_law_is_due : Has P w K mg base 1 "_law_is_due" ["value", "pairs"] sp_law_is_due)
    (G_law_dressed : Has P w K mg base 4 "_law_dressed" ["spring", "value"] (sp_law_dressed 2)) (G_longest_wait : Has P w K mg base 6 "longest_wait" ["sequence"] sp_longest_wait) (G_is_pairing : Has P w K mg base 6 "is_pairing" ["sequence", "value"] spD_is_pairing) :
    HasG P w K mg base 7 "_law_right" ["spring", "sequence", "handed"] sp_law_right := by
  refine hasG_of D sc_law_right (fun _ _ _ _ _ _ us hl => match us, hl with | [_, _, _], _ => rfl) (fun vs H Q E h => ?_) (fun f cdv A outer s H vs Q E hr gd h => ?_)
  · obtain ⟨_, _, _, _, rfl, _⟩ := h
    rfl
  · obtain ⟨sp, sv, hv, rs, rfl, z0, hS, hH, ok, m6, l5, q⟩ := h
    have pos : ∀ r ∈ rs, 1 ≤ r.2 := fun r hr => (ok.2.1 r hr).2.1
    have okr : ∀ r ∈ rs, KindOk r.1 ∧ 1 ≤ r.2 ∧ r.2 ≤ 1000 := fun r hr => ⟨(ok.2.1 r hr).1, pos r hr, m6 r hr⟩
    have lenq := len_it rs pos
    have psl := psR_len (itR rs) [] 0
    have pin : ∀ p ∈ psR [] 0 (itR rs), 0 ≤ p.1 ∧ p.1 ≤ 1000000 ∧ 0 ≤ p.2 ∧ p.2 ≤ 1000000 := fun p hp => by
      have := pair_in pos hp
      omega
    have lb : blR rs = lbR 1 (psR [] 0 (itR rs)) := by
      have := (mul_of (t := 1) (by decide) pos ok.2.2).lb
      rw [scR_one] at this
      exact this
    obtain ⟨wf, wb⟩ := whole_pairs pos ok.2.2
    have cf := cnt_fl _ wb
    have ep : ∀ d : Dat, (decide (cntB (blR rs) ≤ 400) && d.due (flB (blR rs))) = d.due (psR [] 0 (itR rs)) := fun d => by
      rw [wf] at cf
      rw [wf, decide_eq_true (show cntB (blR rs) ≤ 400 by omega), Bool.true_and]
    have lp : (psR [] 0 (itR rs)).length ≤ 100 := by omega
    clear wf wb cf psl lenq
    refine ⟨_, (pss_cons (ps_set (i := 3) sc_law_right.nd rfl (by first | exact Or.inl rfl | exact Or.inr rfl) (pe_ix ix_list (pe_callH G_law_play (hr.mono (by omega)) (by rfl) (pa_cons (pv 1) (pa_cons pe_non pa_nil))) pe_int (fun _ _ => rfl)))
    (pss_cons (ps_if (pt_not (pt_val (pe_callH G_law_same (hr.mono (by omega)) (by rfl) (pa_cons (pe_callH G_longest_wait (hr.mono (by omega)) (by rfl) (pa_cons (pv 2) pa_nil)) (pa_cons (pe_callH G_law_longest (hr.mono (by omega)) (by rfl) (pa_cons (pv 3) (pa_cons pe_int pa_nil))) pa_nil))))) (pss_one (ps_ret pe_bl)) pss_nil)
    (pss_cons (ps_if (PW.pt (pw_or (pt_cmpR op_notBl (pe_callH G_is_pairing (hr.mono (by omega)) (by rfl) (pa_cons (pv 2) (pa_cons (pv 3) pa_nil))) pe_bl (nomark _)) (pw_or1 (pt_cmpR op_notBl (pe_callH G_is_pairing (hr.mono (by omega)) (by rfl) (pa_cons (pv 2) (pa_cons (pe_callH G_law_dressed (hr.mono (by omega)) (by rfl) (pa_cons (pv 0) (pa_cons (pv 3) pa_nil))) pa_nil))) pe_bl (nomark _))))) (pss_one (ps_ret pe_bl)) pss_nil)
    (pss_cons (ps_for PassesOwn.never rfl (pi_range1 (by rfl) T.n_range (pa_cons pe_int pa_nil)) (pg_name (i := 4) sc_law_right.nd rfl (by first | exact Or.inl rfl | exact Or.inr rfl))
      (pss_cons (ps_set (i := 5) sc_law_right.nd rfl (by first | exact Or.inl rfl | exact Or.inr rfl) (pe_callH G_law_changed (hr.mono (by omega)) (by rfl) (pa_cons (pv 0) (pa_cons (pv 3) pa_nil))))
    (pss_cons (ps_if (PW.pt (pw_and (pt_val (pe_callB call_isi (by rfl) T.n_isinstance (by decide +kernel) (pa_cons (pv 5) (pa_cons (pe_bltn (v := .ty "list") (by rfl) T.n_list (by decide +kernel) rfl) pa_nil)))) (pw_and (pt_cmpR (op_neD hr.units) (pv 5) (pe_lst pa_nil) (nomark _)) (pw_and1 (pt_cmpR op_eq (pe_callH G_law_draw (hr.mono (by omega)) (by rfl) (pa_cons (pv 0) (pa_cons pe_int pa_nil))) pe_int (nomark _)))))) (pss_one (ps_set (i := 5) sc_law_right.nd rfl (by first | exact Or.inl rfl | exact Or.inr rfl) (pe_slice sl_list (pv 5) po_none (po_some (pe_un un_neg pe_int))))) pss_nil)
    (pss_cons (ps_set (i := 6) sc_law_right.nd rfl (by first | exact Or.inl rfl | exact Or.inr rfl) (pe_callB (call_reprA gd (room70 hr)) (by rfl) T.n_repr (by decide +kernel) (pa_cons (pv 5) pa_nil)))
    (pss_one (ps_if (PW.pt (pw_or (pt_not (pt_val (pe_callH G_law_same (hr.mono (by omega)) (by rfl) (pa_cons (pe_callH G_is_pairing (hr.mono (by omega)) (by rfl) (pa_cons (pv 2) (pa_cons (pv 5) pa_nil))) (pa_cons (pe_callH G_law_is_due (hr.mono (by omega)) (by rfl) (pa_cons (pv 5) (pa_cons (pv 3) pa_nil))) pa_nil))))) (pw_or1 (pt_cmpR op_ne (pe_callB (call_reprA gd (room70 hr)) (by rfl) T.n_repr (by decide +kernel) (pa_cons (pv 5) pa_nil)) (pv 6) (nomark _))))) (pss_one (ps_ret pe_bl)) pss_nil))))))
    (pss_one (ps_ret pe_bl)))))), ?_⟩
    refine ⟨_, rfl, sv, rs, .non, none, rfl, hS, ok.1, okr, rfl, so_none, (fun r hr => by cases hr), fun H1 p M N s1 hp hM hN nM nN => ?_⟩
    have hN : Rngs H1 N (psR [] 0 (itR rs)) := hN
    generalize psR [] 0 (itR rs) = ps at *
    refine ⟨p, _, 1, _, rfl, rfl, .of hp, at1, ?_⟩
    clear hM hp
    have z1 := z0.same s1
    have hH1 := hH.same s1
    refine ⟨_, rfl, hv, rs, rfl, hH1, ok, fun H2 v2 s2 o2 => ⟨_, rfl, N, ps, 1, rfl, hN.same s2, by omega, pin, by decide, by decide, fun H3 v3 s3 o3 => ⟨v2, v3, _, rfl, dt_O (by rw [lb] at o2; exact o2.same s3), dt_O o3, fun H4 s4 => ⟨true, rfl, iteF ?_⟩⟩⟩⟩
    have s14 := s2.trans (s3.trans s4)
    have z4 := z1.same s14
    have hH4 := hH1.same s14
    have hN4 := hN.same s14
    -- the pairs themselves
    refine ⟨_, rfl, _, rfl, hv, rs, .ref N, .lst (ps.map prD), rfl, hH4, ok, rp_rngs hN4, fun H5 s5 => ⟨true, true, ?_, rfl, _, rfl, iteN rfl ?_⟩⟩
    · rw [ep, due_self]
    have z5 := z4.same s5
    have hH5 := hH4.same s5
    have hN5 := hN4.same s5
    refine ⟨_, rfl, _, rfl, _, rfl, sp, .ref N, .list (ps.map dL), rfl, z5, sim_prs z5 hN5 (by omega), fun H6 v6 b6 z6 h6 => ?_⟩
    obtain ⟨d6, r6, e6⟩ := sim_prs_out h6
    have hH6 := hH5.but z5 b6
    have hN6 := hN5.but z5 b6
    refine ⟨hv, rs, v6, d6, rfl, hH6, ok, r6, fun H7 s7 => ⟨true, true, ?_, rfl, _, rfl, iteN rfl ?_⟩⟩
    · rw [ep, e6]
    have z7 := z6.same s7
    have hH7 := hH6.same s7
    have hN7 := hN6.same s7
    have b17 : But sp H H7 := (Same.but (s1.trans (s14.trans s5))).trans (b6.trans (Same.but s7))
    clear r6 e6 h6 hH6 hN6 hH5 hN5 z5 z6 z4 hH4 hN4 hN hH1 z1 s7 b6 s5 s14 s2 s3 s4
    refine ⟨6, rfl, by decide, by decide, for_range (lo := 0) (n := 6) (fun i σ H' => ∃ y4 y5 y6, σ = [some (.ref sp), some sv, some hv, some (.ref N), y4, y5, y6] ∧ But sp H7 H' ∧ Spr H' sp) ⟨none, none, none, rfl, But.refl, z7⟩ (fun i σ H8 hi hP => ?_) (fun σ H8 hP => ?_)⟩
    · obtain ⟨y4, y5, y6, rfl, b8, z8⟩ := hP
      have hH8 := hH7.but z7 b8
      have hN8 := hN7.but z7 b8
      refine ⟨_, rfl, _, rfl, sp, N, ps, rfl, z8, hN8, lp, pin, fun H9 v9 d9 b9 z9 r9 vd9 c9 => ?_⟩
      have b79 := b8.trans b9
      clear b8 b9 z8 hH8 hN8
      obtain ⟨tv, k1, k2⟩ := Rp.isLt (K := K) r9
      refine ⟨_, rfl, _, _, _, _, _, rfl, .ty "list", k1, k2, _, rfl, ?_⟩
      by_cases il : d9.isL = true
      case neg =>
        have il : d9.isL = false := by simpa using il
        rw [il]
        refine iteF ?_
        have b7 := b79
        have z := z9
        have rv : Rp _ (v9) (d9) := r9
        have vd : Vd (d9) := vd9
        have hHn := hH7.but z7 b7
        have hNn := hN7.but z7 b7
        refine ⟨_, rfl, v9, d9, rfl, rv, vd, ?_⟩
        refine ⟨_, rfl, _, rfl, hv, rs, v9, d9, rfl, hHn, ok, rv, fun H12 s12 => ?_⟩
        rw [ep]
        refine ⟨_, rfl, _, rfl, v9, d9, N, ps, rfl, rv.same s12, hNn.same s12, vd_good vd, fun H13 s13 => ⟨_, _, .bool ((d9).due ps), rfl, .inl (.inr (.inl ⟨_, rfl, rfl⟩)), .inl (.inr (.inl ⟨_, rfl, rfl⟩)), fun H14 s14 => ⟨true, rfl, iteN rfl ?_⟩⟩⟩
        have s := s12.trans (s13.trans s14)
        refine ⟨_, rfl, v9, d9, rfl, rv.same s, vd, _, rfl, rfl, _, rfl, iteN (by rw [decide_eq_true rfl]; rfl) ?_⟩
        exact ⟨_, _, _, rfl, b7.trans (Same.but s), z.same s⟩
      rw [il]
      refine iteT ?_
      obtain ⟨l, wl, rfl, l1, hw, g⟩ := vd_isL vd9 il
      have nn := vd_nice hw g
      obtain ⟨_, n2, _⟩ := nn.fits (Nat.le_refl _) (by decide)
      refine ⟨_, rfl, Nat.zero_le _, fun e ne => ?_⟩
      have se := same_upd (o := .lst []) ne
      have nk9 : (Dat.lst l).nk = true := by
        rw [Dat.nk]
        exact nks_of fun e he => (g e he).1
      refine ⟨(Dat.lst l).py, .list (([] : List Bool).map PyData.bool), (r9.same se).dp nk9, .lst (.of upd_same) .nil, n2, shaped_bls [], _, rfl, ?_⟩
      have r10 := r9.same se
      have z10 := z9.same se
      have b710 := b79.trans (Same.but se)
      generalize upd H9 e (.lst []) = H10 at *
      cases hq : PyData.eqv (Dat.lst l).py (.list (([] : List Bool).map PyData.bool)) with
      | true =>
        refine iteN rfl ?_
        have b7 := b710
        have z := z10
        have rv : Rp _ (v9) (.lst l) := r10
        have vd : Vd (.lst l) := vd9
        have hHn := hH7.but z7 b7
        have hNn := hN7.but z7 b7
        refine ⟨_, rfl, v9, .lst l, rfl, rv, vd, ?_⟩
        refine ⟨_, rfl, _, rfl, hv, rs, v9, .lst l, rfl, hHn, ok, rv, fun H12 s12 => ?_⟩
        rw [ep]
        refine ⟨_, rfl, _, rfl, v9, .lst l, N, ps, rfl, rv.same s12, hNn.same s12, vd_good vd, fun H13 s13 => ⟨_, _, .bool ((Dat.lst l).due ps), rfl, .inl (.inr (.inl ⟨_, rfl, rfl⟩)), .inl (.inr (.inl ⟨_, rfl, rfl⟩)), fun H14 s14 => ⟨true, rfl, iteN rfl ?_⟩⟩⟩
        have s := s12.trans (s13.trans s14)
        refine ⟨_, rfl, v9, .lst l, rfl, rv.same s, vd, _, rfl, rfl, _, rfl, iteN (by rw [decide_eq_true rfl]; rfl) ?_⟩
        exact ⟨_, _, _, rfl, b7.trans (Same.but s), z.same s⟩
      | false =>
        refine iteP rfl ⟨_, rfl, sp, 4, rfl, z10, by decide, by decide, fun H11 r b11 z11 r0 r1 => ?_⟩
        have r11 := r10.butS z10 b11 c9
        have b711 := b710.trans b11
        refine ⟨rfl, _, rfl, ?_⟩
        by_cases ez : V.int r = V.int 0
        · refine iteP (decide_eq_true ez) ⟨_, rfl, 1, rfl, -1, rfl, ?_⟩
          cases r11 with
          | @lst a xs _ e11 p11 =>
            refine ⟨a, xs, rfl, .of e11, fun u nu => ?_⟩
            have b7 := b711.trans (Same.but (same_upd (o := .lst (cutV xs none (some (-1)))) nu))
            have z := z11.same (same_upd (o := .lst (cutV xs none (some (-1)))) nu)
            have rv : Rp _ (.ref u) (.lst (cutD l none (some (-1)))) := .lst upd_same (rps_same (same_upd nu) (paired_cut p11))
            have vd : Vd (.lst (cutD l none (some (-1)))) := vd_cut l1 hw g
            have hHn := hH7.but z7 b7
            have hNn := hN7.but z7 b7
            refine ⟨_, rfl, .ref u, .lst (cutD l none (some (-1))), rfl, rv, vd, ?_⟩
            refine ⟨_, rfl, _, rfl, hv, rs, .ref u, .lst (cutD l none (some (-1))), rfl, hHn, ok, rv, fun H12 s12 => ?_⟩
            rw [ep]
            refine ⟨_, rfl, _, rfl, .ref u, .lst (cutD l none (some (-1))), N, ps, rfl, rv.same s12, hNn.same s12, vd_good vd, fun H13 s13 => ⟨_, _, .bool ((Dat.lst (cutD l none (some (-1)))).due ps), rfl, .inl (.inr (.inl ⟨_, rfl, rfl⟩)), .inl (.inr (.inl ⟨_, rfl, rfl⟩)), fun H14 s14 => ⟨true, rfl, iteN rfl ?_⟩⟩⟩
            have s := s12.trans (s13.trans s14)
            refine ⟨_, rfl, .ref u, .lst (cutD l none (some (-1))), rfl, rv.same s, vd, _, rfl, rfl, _, rfl, iteN (by rw [decide_eq_true rfl]; rfl) ?_⟩
            exact ⟨_, _, _, rfl, b7.trans (Same.but s), z.same s⟩
        · refine iteN (decide_eq_false ez) ?_
          have b7 := b711
          have z := z11
          have rv : Rp _ (v9) (.lst l) := r11
          have vd : Vd (.lst l) := vd9
          have hHn := hH7.but z7 b7
          have hNn := hN7.but z7 b7
          refine ⟨_, rfl, v9, .lst l, rfl, rv, vd, ?_⟩
          refine ⟨_, rfl, _, rfl, hv, rs, v9, .lst l, rfl, hHn, ok, rv, fun H12 s12 => ?_⟩
          rw [ep]
          refine ⟨_, rfl, _, rfl, v9, .lst l, N, ps, rfl, rv.same s12, hNn.same s12, vd_good vd, fun H13 s13 => ⟨_, _, .bool ((Dat.lst l).due ps), rfl, .inl (.inr (.inl ⟨_, rfl, rfl⟩)), .inl (.inr (.inl ⟨_, rfl, rfl⟩)), fun H14 s14 => ⟨true, rfl, iteN rfl ?_⟩⟩⟩
          have s := s12.trans (s13.trans s14)
          refine ⟨_, rfl, v9, .lst l, rfl, rv.same s, vd, _, rfl, rfl, _, rfl, iteN (by rw [decide_eq_true rfl]; rfl) ?_⟩
          exact ⟨_, _, _, rfl, b7.trans (Same.but s), z.same s⟩
    · obtain ⟨y4, y5, y6, rfl, b8, z8⟩ := hP
      exact q _ (b17.trans b8) z8
end
end UP

set_option Elab.async false
set_option linter.all false
set_option maxRecDepth 100000
set_option maxHeartbeats 4000000
namespace UP
open PySem PySem.Spec PyProof.Rows L2
/-! ### runs as lists of their own -/
def LRun (H : Hp) (v : V) (r : Run) : Prop := ∃ t, v = .ref t ∧ H t = some (.lst [.str r.1, .int r.2])
theorem LRun.same {H H' : Hp} {v : V} {r : Run} (s : Same H H') (h : LRun H v r) : LRun H' v r := by
  obtain ⟨t, e, h⟩ := h
  exact ⟨t, e, s _ _ h⟩
theorem LRun.dress {H : Hp} {v : V} {r : Run} (h : LRun H v r) : RunG H v r := by
  obtain ⟨t, e, h⟩ := h
  exact ⟨t, e, .inl h⟩
theorem LRun.grow {H : Hp} {D : Addr} {acc acc' : List V} {v : V} {r : Run} (hD : H D = some (.lst acc)) (ha : acc ≠ [.str r.1, .int r.2]) (h : LRun H v r) : LRun (upd H D (.lst acc')) v r := by
  obtain ⟨t, e, h⟩ := h
  refine ⟨t, e, ?_⟩
  rw [upd_ne (ne_of h hD (fun q => ha (HO.lst.inj q).symm))]
  exact h
/-- one of the lists changed -/
theorem lrun_set {H : Hp} {t : Addr} {o : HO} : ∀ {xs : List V} {hs : List Run} {i : Nat} {r' : Run}, xs.Nodup → Paired (LRun H) xs hs → xs[i]? = some (.ref t) → o = .lst [.str r'.1, .int r'.2] → Paired (LRun (upd H t o)) xs (hs.set i r')
  | [], _, _, _, _, .nil, h, _ => by simp at h
  | x :: u, r :: hs, 0, r', nd, .cons h p, e, ho => by
    have e : x = .ref t := Option.some.inj e
    subst e
    have nd := List.nodup_cons.mp nd
    refine .cons ⟨t, rfl, by rw [upd_same, ho]⟩ ?_
    have keep : ∀ (u : List V) (hs : List Run), V.ref t ∉ u → Paired (LRun H) u hs → Paired (LRun (upd H t o)) u hs := by
      intro u hs nu hp
      induction hp with
      | nil => exact .nil
      | cons h _ ih =>
        obtain ⟨t', rfl, h'⟩ := h
        have ne : t' ≠ t := fun z => nu (by rw [z]; exact List.mem_cons_self ..)
        refine .cons ⟨t', rfl, by rw [upd_ne ne]; exact h'⟩ (ih fun z => nu (List.mem_cons_of_mem _ z))
    exact keep u hs nd.1 p
  | x :: u, r :: hs, i + 1, r', nd, .cons h p, e, ho => by
    have e : u[i]? = some (.ref t) := e
    have nd := List.nodup_cons.mp nd
    obtain ⟨t', rfl, h'⟩ := h
    have ne : t' ≠ t := fun z => nd.1 (by rw [z]; exact List.mem_of_getElem? e)
    exact .cons ⟨t', rfl, by rw [upd_ne ne]; exact h'⟩ (lrun_set nd.2 p e ho)
theorem alt_of {rs hs : List Run} (h : hs.map (·.1) = rs.map (·.1)) (a : Alt rs) : Alt hs := by
  intro i x y hx hy
  have l : hs.length = rs.length := by
    have := congrArg List.length h
    rw [List.length_map, List.length_map] at this
    exact this
  have ix : i < rs.length := by
    have := (List.getElem?_eq_some_iff.mp hx).1
    omega
  have iy : i + 1 < rs.length := by
    have := (List.getElem?_eq_some_iff.mp hy).1
    omega
  have e1 : some x.1 = some (rs[i]).1 := by
    have := congrArg (fun l : List Str => l[i]?) h
    simp only [List.getElem?_map, hx, List.getElem?_eq_getElem ix] at this
    exact this
  have e2 : some y.1 = some (rs[i + 1]).1 := by
    have := congrArg (fun l : List Str => l[i + 1]?) h
    simp only [List.getElem?_map, hy, List.getElem?_eq_getElem iy] at this
    exact this
  rw [Option.some.inj e1, Option.some.inj e2]
  exact a i _ _ (List.getElem?_eq_getElem ix) (List.getElem?_eq_getElem iy)
theorem map_set {hs : List Run} {i : Nat} {r : Run} {c : Int} (h : hs[i]? = some r) : (hs.set i (r.1, c)).map (·.1) = hs.map (·.1) := by
  rw [List.map_set]
  refine List.ext_getElem? fun j => ?_
  by_cases e : i = j
  · subst e
    have := (List.getElem?_eq_some_iff.mp h).1
    rw [List.getElem?_set_self (by rw [List.length_map]; exact this), List.getElem?_map, h]
    rfl
  · rw [List.getElem?_set_ne e]
theorem kinds_of {rs hs : List Run} (h : hs.map (·.1) = rs.map (·.1)) (k : ∀ r ∈ rs, KindOk r.1) : ∀ r ∈ hs, KindOk r.1 := by
  intro r hr
  have : r.1 ∈ rs.map (·.1) := by
    rw [← h]
    exact List.mem_map.mpr ⟨r, hr, rfl⟩
  obtain ⟨x, hx, e⟩ := List.mem_map.mp this
  rw [← e]
  exact k x hx
theorem cut_at {ys : List V} {lo hi : Option Int} {j : Nat} {x : V} (h : (cutV ys lo hi)[j]? = some x) : ∃ k : Nat, ys[k]? = some x ∧ j < ys.length := by
  have l := cutV_length ys lo hi
  have hj := (List.getElem?_eq_some_iff.mp h).1
  unfold cutV at h
  rw [List.getElem?_take] at h
  split at h
  · rw [List.getElem?_drop] at h
    exact ⟨_, h, by omega⟩
  · cases h
theorem seq_nil : SeqOk [] := ⟨Nat.zero_le _, (fun r h => by cases h), (fun i x y h => by simp at h)⟩
theorem pick2 {x y r : Int} (h0 : 0 ≤ r) (h1 : r < 2) : ∃ g, atI [V.int x, V.int y] r = some (.int g) ∧ (g = x ∨ g = y) := by
  by_cases h : r = 0
  · subst h
    exact ⟨x, rfl, .inl rfl⟩
  · have e : r = 1 := by omega
    subst e
    exact ⟨y, rfl, .inr rfl⟩
theorem pow28 : (10 : Int) ^ ((28 : Int).toNat) = 10000000000000000000000000000 := by decide +kernel
theorem sc_kinds {rs : List Run} {t : Int} (k : ∀ r ∈ rs, KindOk r.1) : ∀ r ∈ scR t rs, KindOk r.1 := by
  intro r hr
  obtain ⟨x, hx, rfl⟩ := List.mem_map.mp hr
  exact k x hx
theorem seq_sc {rs : List Run} {t : Int} (h : SeqOk rs) (h6 : ∀ r ∈ rs, r.2 ≤ 6) (t1 : 1 ≤ t) (t2 : t ≤ 10000000000000000000000000000) : SeqOk (scR t rs) := by
  refine ⟨?_, fun r hr => ?_, fun i x y hx hy => ?_⟩
  · unfold scR
    rw [List.length_map]
    exact h.1
  · obtain ⟨x, hx, rfl⟩ := List.mem_map.mp hr
    have h1 := h.2.1 x hx
    have h2 := h6 x hx
    have c1 := h1.2.1
    refine ⟨h1.1, ?_, ?_⟩
    · show 1 ≤ x.2 * t
      have := Int.mul_le_mul (show 1 ≤ x.2 from c1) t1 (by decide) (by omega)
      omega
    · show x.2 * t ≤ 1000000000000000000000000000000
      have := Int.mul_le_mul (show x.2 ≤ 6 from h2) t2 (by omega) (by decide)
      omega
  · unfold scR at hx hy
    rw [List.getElem?_map] at hx hy
    cases e1 : rs[i]? with
    | none => rw [e1] at hx; cases hx
    | some a =>
      cases e2 : rs[i + 1]? with
      | none => rw [e2] at hy; cases hy
      | some b =>
        rw [e1] at hx
        rw [e2] at hy
        cases hx
        cases hy
        exact h.2.2 i a b e1 e2
theorem LRun.but {H H' : Hp} {sp : Addr} {v : V} {r : Run} (z : Spr H sp) (s : But sp H H') (h : LRun H v r) : LRun H' v r := by
  obtain ⟨t, e, h⟩ := h
  obtain ⟨_, _, _, hs, _⟩ := z
  exact ⟨t, e, s _ _ (ne_of h hs (by intro q; cases q)) h⟩
/-- the heap without the spring -/
def hid (sp : Addr) (H : Hp) : Hp := fun b => if b = sp then none else H b
theorem but_hid {sp : Addr} {H : Hp} : But sp H (hid sp H) := fun b o n e => by
  unfold hid
  rw [if_neg n]
  exact e
theorem But.hid {sp : Addr} {H H' : Hp} (h : But sp H H') : Same (hid sp H) H' := fun b o e => by
  unfold UP.hid at e
  by_cases c : b = sp
  · rw [if_pos c] at e
    cases e
  · rw [if_neg c] at e
    exact h b o c e
theorem len_le {c : Int} (h : 0 ≤ c) : ∀ {rs : List Run}, (∀ r ∈ rs, r.2 ≤ c) → lenR rs ≤ c * (rs.length : Int)
  | [], _ => by
    rw [lenR_nil, List.length_nil]
    exact Int.le_of_eq (Int.mul_zero c).symm
  | r :: t, k => by
    have h1 := k r (List.mem_cons_self ..)
    have h2 := len_le h fun x hx => k x (List.mem_cons_of_mem _ hx)
    rw [lenR_cons, List.length_cons, Int.natCast_add, Int.mul_add]
    have e : c * ((1 : Nat) : Int) = c := Int.mul_one c
    omega
theorem eqv_nn : PyData.eqv (.list []) (.list []) = true := by decide
theorem cut_one {ys : List V} {j : Nat} {x : V} (h : (cutV ys none (some 1))[j]? = some x) : j = 0 := by
  have hj := (List.getElem?_eq_some_iff.mp h).1
  unfold cutV at hj
  rw [List.length_take] at hj
  have e : HT.sIx ys.length ys.length (some 1) ≤ 1 := by
    show (if (1 : Int) < 0 then ((1 : Int) + (ys.length : Int)).toNat else min (1 : Int).toNat ys.length) ≤ 1
    rw [if_neg (by decide)]
    exact Nat.min_le_left _ _
  have e0 : HT.sIx ys.length 0 none = 0 := rfl
  omega
def runP (c : Int) (i : Nat) : List Pr := (List.range i).map fun j : Nat => ((j : Int), c + (j : Int))
theorem runP_snoc (c : Int) (i : Nat) : runP c (i + 1) = runP c i ++ [((i : Int), c + (i : Int))] := by
  unfold runP
  rw [List.range_succ, List.map_append]
  rfl
def twoR (c : Int) : List Run := [("a", c), ("b", c)]
theorem two_ok {c : Int} (h1 : 1 ≤ c) (h2 : c ≤ 1000) : SeqOk (twoR c) := by
  have ka : KindOk "a" := by decide +kernel
  have kb : KindOk "b" := by decide +kernel
  refine ⟨by show 2 ≤ 400; decide, fun r hr => ?_, fun i x y hx hy => ?_⟩
  · rcases List.mem_cons.mp hr with e | e
    · rw [e]
      exact ⟨ka, h1, by show c ≤ _; omega⟩
    · rw [List.mem_singleton.mp e]
      exact ⟨kb, h1, by show c ≤ _; omega⟩
  · cases i with
    | zero =>
      cases hx
      cases hy
      show ("a" : Str) ≠ "b"
      decide +kernel
    | succ n =>
      cases n with
      | zero => cases hy
      | succ n => cases hy
theorem e400 : (decide (cntB (blR (twoR 400)) ≤ 400) && (Dat.lst ((runP 400 400).map prD)).due (flB (blR (twoR 400)))) = true := by
  have h1 : flB (blR (twoR 400)) = runP 400 400 := by decide +kernel
  have h2 : decide (cntB (blR (twoR 400)) ≤ 400) = true := by decide +kernel
  rw [h1, h2, due_self]
  rfl
theorem e401 : decide (cntB (blR (twoR 401)) ≤ 400) = false := by decide +kernel
theorem rp_range {H : Hp} {L : Addr} {ws : List V} {ps : List Pr} (h : H L = some (.lst ws)) (p : Paired (PV H) ws ps) : Rp H (.ref L) (.lst (ps.map prD)) := rp_rngs ⟨ws, h, p⟩
section
variable {P : Program} {w : World} {K : PySem.W.Frag} {mg : Str → Option Value} {base : Heap}
/-! law: slots 0:script 1:spring 2:turn 3:due 4:more 5:found 6:sequence 7:handed 8:before 9:times 10:held 11:run 12:place -/
abbrev s_law : Stmt := topS 46
theorem sc_law : FnScope ["script", "spring", "turn", "due", "more", "found", "sequence", "handed", "before", "times", "held", "run", "place"] ["script"] (defScope s_law) := ⟨rfl, rfl, rfl, by decide +kernel, rfl, by decide +kernel, by decide +kernel⟩
def sp_law (K : PySem.W.Frag) : Sp := fun vs H Q _ => ∃ (a : Addr) (ns : List Int), vs = [.ref a] ∧ SqL K H a (ns.map V.int) ∧ ns.length ≤ 63 ∧ ∀ H', Q (.bl true) H'
theorem fn_law {f : Addr} {fd : FuncData} (F : Fun K "law" "law" s_law f fd) (T : Tx mg)
    (G_law_spring : Has P w K mg base 1 "_law_spring" ["script"] (sp_law_spring K)) (G_law_draw : Has P w K mg base 1 "_law_draw" ["spring", "many"] sp_law_draw)
    (G_law_sequence : Has P w K mg base 2 "_law_sequence" ["spring", "most", "longest"] sp_law_sequence)
    (G_law_scaled : Has P w K mg base 1 "_law_scaled" ["sequence", "times"] sp_law_scaled) (G_law_dressed : Has P w K mg base 4 "_law_dressed" ["spring", "value"] (sp_law_dressed 2))
    (G_law_play : Has P w K mg base 1 "_law_play" ["sequence", "start"] sp_law_play) (G_law_same : Has P w K mg base 4 "_law_same" ["found", "due"] (sp_law_same 2))
    (G_law_longest : Has P w K mg base 1 "_law_longest" ["pairs", "times"] sp_law_longest)
    (G_law_right : HasG P w K mg base 7 "_law_right" ["spring", "sequence", "handed"] sp_law_right)
    (G_longest_wait : Has P w K mg base 6 "longest_wait" ["sequence"] sp_longest_wait) (G_is_pairing : Has P w K mg base 6 "is_pairing" ["sequence", "value"] spD_is_pairing) :
    FnC P w K mg base f fd ["script"] (sp_law K) := by
  refine fnC_of F sc_law (fun vs H Q E h => ?_) (fun cdv outer s H vs Q E hr h => ?_)
  · obtain ⟨_, _, rfl, _⟩ := h
    rfl
  · obtain ⟨a, ns, rfl, hS, l63, q⟩ := h
    refine ⟨_, (pss_cons (ps_set (i := 1) sc_law.nd rfl (by first | exact Or.inl rfl | exact Or.inr rfl) (pe_callH G_law_spring (hr.mono (by omega)) (by rfl) (pa_cons (pv 0) pa_nil)))
    (pss_cons (ps_for PassesOwn.never rfl (pi_range1 (by rfl) T.n_range (pa_cons (pe_op op_add pe_int (pe_callB (call_min2 rfl) (by rfl) T.n_min (by decide +kernel) (pa_cons (pe_callB call_len_seq (by rfl) T.n_len (by decide +kernel) (pa_cons (pv 0) pa_nil)) (pa_cons pe_int pa_nil)))) pa_nil)) (pg_name (i := 2) sc_law.nd rfl (by first | exact Or.inl rfl | exact Or.inr rfl))
      (pss_cons (ps_set (i := 6) sc_law.nd rfl (by first | exact Or.inl rfl | exact Or.inr rfl) (pe_callH G_law_sequence (hr.mono (by omega)) (by rfl) (pa_cons (pv 1) (pa_cons pe_int (pa_cons pe_int pa_nil)))))
    (pss_cons (ps_set (i := 7) sc_law.nd rfl (by first | exact Or.inl rfl | exact Or.inr rfl) (pe_callH G_law_dressed (hr.mono (by omega)) (by rfl) (pa_cons (pv 1) (pa_cons (pv 6) pa_nil))))
    (pss_cons (ps_set (i := 8) sc_law.nd rfl (by first | exact Or.inl rfl | exact Or.inr rfl) (pe_callB (call_reprD (by rfl) (room70 hr)) (by rfl) T.n_repr (by decide +kernel) (pa_cons (pv 7) pa_nil)))
    (pss_cons (ps_if (PW.pt (pw_or (pt_not (pt_val (pe_callGH G_law_right (by rfl) (hr.mono (by omega)) (by rfl) (pa_cons (pv 1) (pa_cons (pv 6) (pa_cons (pv 7) pa_nil)))))) (pw_or1 (pt_cmpR op_ne (pe_callB (call_reprD (by rfl) (room70 hr)) (by rfl) T.n_repr (by decide +kernel) (pa_cons (pv 7) pa_nil)) (pv 8) (nomark _))))) (pss_one (ps_ret pe_bl)) pss_nil)
    (pss_cons (ps_set (i := 9) sc_law.nd rfl (by first | exact Or.inl rfl | exact Or.inr rfl) (pe_op op_add pe_int (pe_callH G_law_draw (hr.mono (by omega)) (by rfl) (pa_cons (pv 1) (pa_cons (pe_op op_pow pe_int pe_int) pa_nil)))))
    (pss_cons (ps_set (i := 3) sc_law.nd rfl (by first | exact Or.inl rfl | exact Or.inr rfl) (pe_callH G_law_longest (hr.mono (by omega)) (by rfl) (pa_cons (pe_ix ix_list (pe_callH G_law_play (hr.mono (by omega)) (by rfl) (pa_cons (pv 6) (pa_cons pe_non pa_nil))) pe_int (fun _ _ => rfl)) (pa_cons (pv 9) pa_nil))))
    (pss_cons (ps_if (pt_not (pt_val (pe_callH G_law_same (hr.mono (by omega)) (by rfl) (pa_cons (pe_callH G_longest_wait (hr.mono (by omega)) (by rfl) (pa_cons (pe_callH G_law_scaled (hr.mono (by omega)) (by rfl) (pa_cons (pv 6) (pa_cons (pv 9) pa_nil))) pa_nil)) (pa_cons (pv 3) pa_nil))))) (pss_one (ps_ret pe_bl)) pss_nil)
    (pss_cons (ps_setLc (i := 10) (own := [("run", 11)]) rfl sc_law.nd rfl rfl (sw_true rfl rfl rfl (by decide +kernel)) (pi_list (pv 6)) (blkOk_by (N := ["script", "spring", "turn", "due", "more", "found", "sequence", "handed", "before", "times", "held", "run", "place"]) (sc := defScope s_law) (by decide +kernel)) (fun _ _ _ _ _ => (pg_name (i := 11) sc_law.nd rfl (by first | exact Or.inl rfl | exact Or.inr rfl))) (fun _ _ _ _ _ => pts_nil) (fun _ _ _ _ _ => (pe_callTy (call_list_ofK (K := K) rfl) (by rfl) T.n_list (by decide +kernel) (pa_cons (pv 11) pa_nil))))
    (pss_one (ps_for PassesOwn.never rfl (pi_list (pe_slice sl_list (pv 10) po_none (po_some pe_int))) (pg_name (i := 11) sc_law.nd rfl (by first | exact Or.inl rfl | exact Or.inr rfl))
      (pss_cons (ps_asg (pe_op op_add (pe_ix ix_list (pv 11) pe_int (fun _ _ => rfl)) pe_int) (pg_sub (pv 11) pe_int set_list))
    (pss_one (ps_if (pt_not (pt_val (pe_callGH G_law_right (by rfl) (hr.mono (by omega)) (by rfl) (pa_cons (pv 1) (pa_cons (pv 10) (pa_cons (pv 10) pa_nil)))))) (pss_one (ps_ret pe_bl)) pss_nil))))))))))))))
    (pss_cons (ps_setLc (i := 3) (own := [("place", 12)]) rfl sc_law.nd rfl rfl (sw_true rfl rfl rfl (by decide +kernel)) (pi_range1 (by rfl) T.n_range (pa_cons pe_int pa_nil)) (blkOk_by (N := ["script", "spring", "turn", "due", "more", "found", "sequence", "handed", "before", "times", "held", "run", "place"]) (sc := defScope s_law) (by decide +kernel)) (fun _ _ _ _ _ => (pg_name (i := 12) sc_law.nd rfl (by first | exact Or.inl rfl | exact Or.inr rfl))) (fun _ _ _ _ _ => pts_nil) (fun _ _ _ _ _ => (pe_tup (pa_cons (pv 12) (pa_cons (pe_op op_add pe_int (pv 12)) pa_nil)))))
    (pss_cons (ps_setLc (i := 4) (own := [("place", 12)]) rfl sc_law.nd rfl rfl (sw_true rfl rfl rfl (by decide +kernel)) (pi_range1 (by rfl) T.n_range (pa_cons pe_int pa_nil)) (blkOk_by (N := ["script", "spring", "turn", "due", "more", "found", "sequence", "handed", "before", "times", "held", "run", "place"]) (sc := defScope s_law) (by decide +kernel)) (fun _ _ _ _ _ => (pg_name (i := 12) sc_law.nd rfl (by first | exact Or.inl rfl | exact Or.inr rfl))) (fun _ _ _ _ _ => pts_nil) (fun _ _ _ _ _ => (pe_tup (pa_cons (pv 12) (pa_cons (pe_op op_add pe_int (pv 12)) pa_nil)))))
    (pss_cons (ps_set (i := 5) sc_law.nd rfl (by first | exact Or.inl rfl | exact Or.inr rfl) (pe_lst (pa_cons (pe_callH G_is_pairing (hr.mono (by omega)) (by rfl) (pa_cons (pe_lst (pa_cons (pe_tup (pa_cons pe_str (pa_cons pe_int pa_nil))) (pa_cons (pe_tup (pa_cons pe_str (pa_cons pe_int pa_nil))) pa_nil))) (pa_cons (pv 3) pa_nil))) (pa_cons (pe_callH G_is_pairing (hr.mono (by omega)) (by rfl) (pa_cons (pe_lst (pa_cons (pe_tup (pa_cons pe_str (pa_cons pe_int pa_nil))) (pa_cons (pe_tup (pa_cons pe_str (pa_cons pe_int pa_nil))) pa_nil))) (pa_cons (pv 4) pa_nil))) pa_nil))))
    (pss_one (ps_ret (pe_and (pe_cmpR op_eq (pe_callB (call_reprD (by rfl) (room70 hr)) (by rfl) T.n_repr (by decide +kernel) (pa_cons (pv 5) pa_nil)) pe_str (nomark _)) (pe_and (pe_cmpR op_isN (pe_callH G_longest_wait (hr.mono (by omega)) (by rfl) (pa_cons (pe_lst pa_nil) pa_nil)) pe_non (nomark _)) (pe_one (pe_cmpR op_isBl (pe_callH G_is_pairing (hr.mono (by omega)) (by rfl) (pa_cons (pe_lst pa_nil) (pa_cons (pe_lst pa_nil) pa_nil))) pe_bl (nomark _)))))))))))), ?_⟩
    refine ⟨_, rfl, a, ns, rfl, hS, l63, fun H1 sp s1 nsp z1 => ?_⟩
    refine ⟨_, rfl, a, _, rfl, .inl (s1.seq hS), _, _, rfl, _, _, rfl, rfl, _, rfl, ?_, ?_, for_range (lo := 0) (n := _) (fun i σ H' => ∃ y2 y3 y6 y7 y8 y9 y10 y11, σ = [some (.ref a), some (.ref sp), y2, y3, none, none, y6, y7, y8, y9, y10, y11, none] ∧ Spr H' sp)
      ⟨none, none, none, none, none, none, none, none, rfl, z1⟩ (fun i σ H2 hi hP => ?_) (fun σ H2 hP => ?_)⟩
    · rw [List.length_map]
      split <;> omega
    · rw [List.length_map]
      split <;> omega
    · obtain ⟨y2, y3, y6, y7, y8, y9, y10, y11, rfl, z2⟩ := hP
      clear z1
      -- sequence
      refine ⟨_, rfl, sp, 10, 6, rfl, z2, by decide, by decide, by decide, by decide, fun H4 p rs b3 z4 np hR4 ok lm lg => ?_⟩
      have lr : rs.length ≤ 10 := by omega
      clear b3 z2 np lm
      have okr : ∀ r ∈ rs, KindOk r.1 ∧ 1 ≤ r.2 ∧ r.2 ≤ 1000 := fun r hr => ⟨(ok.2.1 r hr).1, (ok.2.1 r hr).2.1, by have := lg r hr; omega⟩
      have pos : ∀ r ∈ rs, 1 ≤ r.2 := fun r hr => (okr r hr).2.1
      have ll := len_le (c := 6) (by decide) lg
      -- handed
      refine ⟨_, rfl, _, rfl, sp, .ref p, dSq rs, rfl, z4, sim_seq z4 hR4 (by omega), fun H5 v5 b5 z5 h5 => ?_⟩
      have hR5 := hR4.but z4 b5
      have hd5 := sim_runs h5
      clear hR4 h5 b5 z4
      -- repr
      obtain ⟨d, hd, nd⟩ := dps_runs (K := K) (hd5.but z5 but_hid) (fun r hr => ⟨(okr r hr).1, by have := (okr r hr).2; omega⟩) (by omega)
      obtain ⟨n1, n2, n3⟩ := nd.fits (by decide) (by decide)
      obtain ⟨l, _, rfl, _⟩ := id hd5
      refine ⟨_, rfl, l, d, rfl, hd _ But.refl.hid, n1, n2, n3, ?_⟩
      refine ⟨_, rfl, _, rfl, _, rfl, sp, .ref p, .ref l, rs, rfl, z5, hR5.dress, hd5, ok, (fun r hr => (okr r hr).2.2), by omega, fun H6 b6 z6 => ⟨true, rfl, iteN rfl ?_⟩⟩
      refine ⟨_, rfl, l, d, rfl, hd _ b6.hid, n1, n2, n3, _, rfl, rfl, _, rfl, iteN (by rw [decide_eq_true rfl]; rfl) ?_⟩
      have hR6 := hR5.but z5 b6
      clear hd nd n1 n2 n3 hR5 hd5 z5 b6
      -- times
      refine ⟨_, rfl, _, _, rfl, rfl, ⟨by decide, by decide, by decide⟩, sp, _, rfl, z6, (by rw [pow28]; decide), (by rw [pow28]; exact wide8 (by decide) (by decide)), fun H7 r b7 z7 r0 r1 => ⟨_, _, rfl, rfl, ?_⟩⟩
      rw [pow28] at r1
      have hR7 := hR6.but z6 b7
      clear hR6 z6 b7
      have t1 : 1 ≤ 1 + r := by omega
      have okt := seq_sc ok lg t1 (show 1 + r ≤ 10000000000000000000000000000 by omega)
      have mlb := (mul_of t1 pos ok.2.2).lb
      have t8 := wide8 (m := 1 + r) (by omega) (by omega)
      -- what is due
      refine ⟨_, rfl, .ref p, rs, .non, none, rfl, hR7.dress, by omega, okr, rfl, so_none, (fun r hr => by cases hr), fun H8 p8 M N s8 hp8 hM hN nM nN => ?_⟩
      have hN : Rngs H8 N (psR [] 0 (itR rs)) := hN
      have psl := psR_len (itR rs) [] 0
      have lenq := len_it rs pos
      refine ⟨p8, _, 1, _, rfl, rfl, .of hp8, at1, _, rfl, N, _, 1 + r, rfl, hN, by omega, (fun p hp => by have := pair_in pos hp; omega), t1, t8, fun H9 v9 s9 o9 => ?_⟩
      rw [← mlb] at o9
      have s79 := s8.trans s9
      have hR9 := hR7.same s79
      have z9 := z7.same s79
      clear hM hN hp8 nM nN s79 s9 s8 hR7 z7 psl lenq mlb
      refine ⟨_, rfl, _, rfl, p, rs, 1 + r, rfl, hR9, by omega, (fun r hr => (okr r hr).2), fun H10 pc s10 npc hpc => ⟨.ref pc, scR (1 + r) rs, rfl, hpc.dress, okt, fun H11 v11 s11 o11 => ⟨_, rfl, v11, v9, _, rfl, dt_O o11, dt_O (o9.same (s10.trans s11)), fun H12 s12 => ⟨true, rfl, iteF ?_⟩⟩⟩⟩
      have s912 := s10.trans (s11.trans s12)
      have hR12 := hR9.same s912
      have z12 := z9.same s912
      clear hR9 z9 o9 o11 hpc npc s912 s10 s11 s12 okt t8 t1
      -- held
      obtain ⟨xs, hx, hp⟩ := hR12
      have lx : xs.length = rs.length := Paired.len hp
      refine ⟨_, rfl, p, rfl, ⟨xs, .of hx⟩, fun L nL => lc_list (K := K) (a := p) (xs := xs) (fun i H' => Same H12 H' ∧ ∃ ys, H' L = some (.lst ys) ∧ ys.Nodup ∧ Paired (LRun H') ys (rs.take i)) ⟨same_upd nL, [], upd_same, List.nodup_nil, .nil⟩ (fun i H' _ p => .of (p.1 _ _ hx)) (fun i x H17 ex hP => ?_) (fun H17 hP => ?_)⟩
      · obtain ⟨sm, ys, hL, ndy, hy⟩ := hP
        obtain ⟨r, er, hr1⟩ := Paired.at hp ex
        obtain ⟨t, rfl, ht⟩ := RunV.same sm hr1
        have hi : i < xs.length := (List.getElem?_eq_some_iff.mp ex).1
        refine ⟨rfl, yesT ⟨_, rfl, t, _, rfl, .inr (.of ht), fun n nn => ⟨_, same_upd nn _ _ hL, ?_, same_grow nL (sm.trans (same_upd nn)), ys ++ [.ref n], upd_same, ?_, ?_⟩⟩⟩
        · have := Paired.len hy
          rw [List.length_take] at this
          exact small (by omega)
        · refine List.nodup_append.mpr ⟨ndy, List.nodup_cons.mpr ⟨by simp, List.nodup_nil⟩, fun b hb c hc => ?_⟩
          rw [List.mem_singleton.mp hc]
          intro z
          rw [z] at hb
          obtain ⟨j, hj, ej⟩ := List.mem_iff_getElem.mp hb
          obtain ⟨r', _, ⟨t', e', h'⟩⟩ := Paired.at hy (List.getElem?_eq_getElem hj)
          rw [ej] at e'
          cases e'
          rw [h'] at nn
          cases nn
        · rw [take_snoc er]
          have notr : ∀ r' : Run, ys ≠ [.str r'.1, .int r'.2] := fun r' z => by
            obtain ⟨_, _, ⟨_, e, _⟩⟩ := Paired.at (i := 0) (x := V.str r'.1) hy (by rw [z]; rfl)
            cases e
          refine Paired.app (Paired.imp (fun _ r' z => LRun.grow (same_upd nn _ _ hL) (notr r') (LRun.same (same_upd nn) z)) hy) (.cons (LRun.grow (same_upd nn _ _ hL) (notr r) ⟨n, rfl, upd_same⟩) .nil)
      · obtain ⟨s17, ys, hL, ndy, hy⟩ := hP
        rw [lx, List.take_length] at hy
        have z17 := z12.same s17
        have ly := Paired.len hy
        clear z12 hx hp s17 nL lx
        -- the first of them grows
        refine ⟨_, rfl, 1, rfl, L, ys, rfl, .of hL, fun c nc => ⟨c, rfl, ⟨_, .of upd_same⟩, for_list (K := K) (a := c) (xs := cutV ys none (some 1)) (fun j σ H' => ∃ hs y11, σ = [some (.ref a), some (.ref sp), some (.int (0 + i)), some v9, none, none, some (.ref p), some (.ref l), some (.str d.shown), some (.int (1 + r)), some (.ref L), y11, none] ∧ Spr H' sp ∧ H' c = some (.lst (cutV ys none (some 1))) ∧ H' L = some (.lst ys) ∧ Paired (LRun H') ys hs ∧ hs.map (·.1) = rs.map (·.1) ∧ ∀ r ∈ hs, 1 ≤ r.2 ∧ r.2 ≤ 6 + j)
          ⟨rs, _, rfl, z17.same (same_upd nc), upd_same, same_upd nc _ _ hL, Paired.imp (fun _ _ z => LRun.same (same_upd nc) z) hy, rfl, fun r hr => ⟨pos r hr, by have := lg r hr; omega⟩⟩ (fun j σ H' _ hP => ?_) (fun j x σ H18 ex hP => ?_) (fun σ H18 hP => ?_)⟩⟩
        · obtain ⟨_, _, _, _, hc, _⟩ := hP
          exact .of hc
        · obtain ⟨hs, y11, rfl, z18, hc, hL18, hys, em, bd⟩ := hP
          obtain ⟨k, ey, jl⟩ := cut_at ex
          have j0 := cut_one ex
          obtain ⟨r, er, ⟨tr, rfl, ht⟩⟩ := Paired.at hys ey
          have bdr := bd r (List.mem_of_getElem? er)
          refine ⟨_, rfl, tr, _, 1, _, rfl, rfl, .of ht, at1, _, _, rfl, rfl, _, rfl, tr, _, 1, 1, rfl, rfl, ht, rfl, ?_⟩
          have nys : ys ≠ [.str r.1, .int r.2] := fun z => by
            rw [z] at hys
            cases hys with
            | cons h _ =>
              obtain ⟨_, e, _⟩ := h
              cases e
          have ncut : cutV ys none (some 1) ≠ [.str r.1, .int r.2] := fun z => by
            have h0 : (cutV ys none (some 1))[0]? = some (.str r.1) := by rw [z]; rfl
            obtain ⟨k, h1, _⟩ := cut_at h0
            obtain ⟨_, _, ⟨_, e, _⟩⟩ := Paired.at hys h1
            cases e
          have hnew := lrun_set (o := .lst [.str r.1, .int (r.2 + 1)]) (r' := (r.1, r.2 + 1)) ndy hys ey rfl
          have hLt : L ≠ tr := fun z => by
            rw [z, ht] at hL18
            exact nys (HO.lst.inj (Option.some.inj hL18)).symm
          have hct : c ≠ tr := fun z => by
            rw [z, ht] at hc
            exact ncut (HO.lst.inj (Option.some.inj hc)).symm
          have hst : sp ≠ tr := fun z => by
            obtain ⟨_, _, _, h1, _⟩ := z18
            rw [z, ht] at h1
            cases h1
          have zn : Spr (upd H18 tr (.lst [.str r.1, .int (r.2 + 1)])) sp := by
            obtain ⟨x1, x2, x3, h1, rest⟩ := z18
            exact ⟨x1, x2, x3, by rw [upd_ne hst]; exact h1, rest⟩
          have em' := (map_set (c := r.2 + 1) er).trans em
          have bd' : ∀ r' ∈ hs.set k (r.1, r.2 + 1), 1 ≤ r'.2 ∧ r'.2 ≤ 6 + ((j + 1 : Nat) : Int) := by
            intro r' hr'
            rcases List.mem_or_eq_of_mem_set hr' with z | z
            · have := bd r' z
              omega
            · rw [z]
              show 1 ≤ r.2 + 1 ∧ r.2 + 1 ≤ _
              omega
          have lh : (hs.set k (r.1, r.2 + 1)).length = rs.length := by
            have := congrArg List.length em'
            rw [List.length_map, List.length_map] at this
            exact this
          have hRn : RunsG (upd H18 tr (.lst [.str r.1, .int (r.2 + 1)])) (.ref L) (hs.set k (r.1, r.2 + 1)) := ⟨L, ys, rfl, .inl (by rw [upd_ne hLt]; exact hL18), Paired.imp (fun _ _ z => LRun.dress z) hnew⟩
          have okn : SeqOk (hs.set k (r.1, r.2 + 1)) := ⟨by omega, fun r' hr' => ⟨kinds_of em' (fun z hz => (okr z hz).1) r' hr', by have := bd' r' hr'; omega, by have := bd' r' hr'; omega⟩, alt_of em' ok.2.2⟩
          have ll2 := len_le (c := 7) (by decide) (rs := hs.set k (r.1, r.2 + 1)) fun r' hr' => by have := bd' r' hr'; omega
          refine ⟨_, rfl, _, rfl, _, rfl, sp, .ref L, .ref L, hs.set k (r.1, r.2 + 1), rfl, zn, hRn, hRn, okn, (fun r' hr' => by have := bd' r' hr'; omega), by omega, fun H19 b19 z19 => ⟨true, rfl, iteF ?_⟩⟩
          have hLs : L ≠ sp := fun z => by
            obtain ⟨_, _, _, h1, _⟩ := z18
            rw [z, h1] at hL18
            have e := HO.lst.inj (Option.some.inj hL18)
            rw [← e] at hys
            cases hys with
            | cons h _ =>
              obtain ⟨_, e, _⟩ := h
              cases e
          have hcs : c ≠ sp := fun z => by
            obtain ⟨d0, s0, c0, h1, _⟩ := z18
            rw [z, h1] at hc
            have e := HO.lst.inj (Option.some.inj hc)
            have h0 : (cutV ys none (some 1))[0]? = some (.int d0) := by rw [← e]; rfl
            obtain ⟨k, h1, _⟩ := cut_at h0
            obtain ⟨_, _, ⟨_, e, _⟩⟩ := Paired.at hys h1
            cases e
          exact ⟨_, _, rfl, z19, b19 _ _ hcs (by rw [upd_ne hct]; exact hc), b19 _ _ hLs (by rw [upd_ne hLt]; exact hL18), Paired.imp (fun _ _ z => LRun.but zn b19 z) hnew, em', bd'⟩
        · obtain ⟨hs, y11, rfl, z18, _⟩ := hP
          exact ⟨_, _, _, _, _, _, _, _, rfl, z18⟩
    · obtain ⟨y2, y3, y6, y7, y8, y9, y10, y11, rfl, z2⟩ := hP
      clear z1 z2
      -- the great ones
      refine ⟨400, rfl, by decide, by decide, fun L nL => lc_range (lo := 0) (n := (400 : Int).toNat) (fun i H' => Same H2 H' ∧ ∃ ws, H' L = some (.lst ws) ∧ Paired (PV H') ws (runP 400 i)) ⟨same_upd nL, [], upd_same, .nil⟩ (fun i H3 hi hP => ?_) (fun H3 hP => ?_)⟩
      · obtain ⟨sm, ws, hL, hw⟩ := hP
        have lw := Paired.len hw
        unfold runP at lw
        rw [List.length_map, List.length_range] at lw
        refine ⟨rfl, yesT ⟨_, rfl, _, rfl, _, _, rfl, rfl, (by show 2 ≤ sizeLine; decide), fun u nu => ⟨_, same_upd nu _ _ hL, small (by omega), same_grow nL (sm.trans (same_upd nu)), _, upd_same, ?_⟩⟩⟩
        rw [runP_snoc]
        refine Paired.app (pvs_grow (same_upd nu _ _ hL) (pvs_same (same_upd nu) hw)) (.cons (PV.grow (same_upd nu _ _ hL) ⟨u, rfl, ?_⟩) .nil)
        rw [upd_same, Int.zero_add]
      obtain ⟨s3, ws, hL, hw⟩ := hP
      refine ⟨401, rfl, by decide, by decide, fun L2 nL2 => lc_range (lo := 0) (n := (401 : Int).toNat) (fun i H' => Same H3 H' ∧ ∃ ws, H' L2 = some (.lst ws) ∧ Paired (PV H') ws (runP 401 i)) ⟨same_upd nL2, [], upd_same, .nil⟩ (fun i H4 hi hP => ?_) (fun H4 hP => ?_)⟩
      · obtain ⟨sm, ws, hL, hw⟩ := hP
        have lw := Paired.len hw
        unfold runP at lw
        rw [List.length_map, List.length_range] at lw
        refine ⟨rfl, yesT ⟨_, rfl, _, rfl, _, _, rfl, rfl, (by show 2 ≤ sizeLine; decide), fun u nu => ⟨_, same_upd nu _ _ hL, small (by omega), same_grow nL2 (sm.trans (same_upd nu)), _, upd_same, ?_⟩⟩⟩
        rw [runP_snoc]
        refine Paired.app (pvs_grow (same_upd nu _ _ hL) (pvs_same (same_upd nu) hw)) (.cons (PV.grow (same_upd nu _ _ hL) ⟨u, rfl, ?_⟩) .nil)
        rw [upd_same, Int.zero_add]
      obtain ⟨s4, ws2, hL2, hw2⟩ := hP
      have r3 := (rp_range hL hw).same s4
      have r4 := rp_range hL2 hw2
      refine ⟨(by show 2 ≤ sizeLine; decide), fun t1 k1 => ⟨(by show 2 ≤ sizeLine; decide), fun t2 k2 => ⟨(by show 2 ≤ sizeLine; decide), fun l nl => ⟨_, rfl, .ref l, twoR 400, .ref L, .lst ((runP 400 400).map prD), rfl, ?_, two_ok (by decide) (by decide), ((r3.same (same_upd k1)).same (same_upd k2)).same (same_upd nl), fun H5 s5 => ?_⟩⟩⟩⟩
      · exact ⟨l, _, rfl, .inl upd_same, .cons ⟨t1, rfl, .inr (same_upd nl _ _ (same_upd k2 _ _ upd_same))⟩ (.cons ⟨t2, rfl, .inr (same_upd nl _ _ upd_same)⟩ .nil)⟩
      rw [e400]
      have r5 := (((r4.same (same_upd k1)).same (same_upd k2)).same (same_upd nl)).same s5
      clear k1 k2 nl s5 r3 r4
      refine ⟨(by show 2 ≤ sizeLine; decide), fun t1 k1 => ⟨(by show 2 ≤ sizeLine; decide), fun t2 k2 => ⟨(by show 2 ≤ sizeLine; decide), fun l nl => ⟨_, rfl, .ref l, twoR 401, .ref L2, .lst ((runP 401 401).map prD), rfl, ?_, two_ok (by decide) (by decide), ((r5.same (same_upd k1)).same (same_upd k2)).same (same_upd nl), fun H6 s6 => ?_⟩⟩⟩⟩
      · exact ⟨l, _, rfl, .inl upd_same, .cons ⟨t1, rfl, .inr (same_upd nl _ _ (same_upd k2 _ _ upd_same))⟩ (.cons ⟨t2, rfl, .inr (same_upd nl _ _ upd_same)⟩ .nil)⟩
      rw [e401, Bool.false_and]
      refine ⟨(by show 2 ≤ sizeLine; decide), fun lf nf => ?_⟩
      refine ⟨_, rfl, lf, .list [.bool true, .bool false], rfl, .lst (.of upd_same) (.cons (.bl _) (.cons (.bl _) .nil)), by decide +kernel, by decide +kernel, by decide +kernel, rfl, _, rfl, iteP (decide_eq_true (congrArg V.str (by decide +kernel))) ?_⟩
      refine ⟨Nat.zero_le _, fun e ne => ⟨.ref e, [], rfl, ⟨e, [], rfl, .inl upd_same, .nil⟩, seq_nil, fun H8 v8 s8 o8 => ?_⟩⟩
      cases (show v8 = .non from o8)
      refine ⟨rfl, _, rfl, iteP rfl ?_⟩
      refine ⟨Nat.zero_le _, fun e1 ne1 => ⟨Nat.zero_le _, fun e2 ne2 => ⟨.ref e1, [], .ref e2, .lst [], rfl, ⟨e1, [], rfl, .inl (same_upd ne2 _ _ upd_same), .nil⟩, seq_nil, .lst upd_same .nil, fun H9 s9 => ⟨true, true, ?_, rfl, q _⟩⟩⟩⟩
      exact congrArg V.bl (by decide +kernel)
end
end UP

set_option Elab.async false
set_option linter.all false
set_option maxRecDepth 100000
set_option maxHeartbeats 4000000
namespace UP
open PySem PySem.Spec PyProof.Rows L2
section
variable {K : PySem.W.Frag} {h : Heap} {mg : Str → Option Value}
theorem df_mk {x : Str} {st : Stmt} {f : Addr} {od an : Option Addr} {sl : Array (Option Value)} {oc kV dc pm cd ct : Value} (X : K.In h) (G : h.Ns mainGlobals mg) (a : PySem.W.nsIn K mainGlobals x = some (some (.ref f)))
    (l : K.lookup f = some ⟨oc, od, .func (PySem.W.fnOf x x (defArgs st) (defBody st) (defScope st) .none kV dc pm an cd ct), sl⟩) (c : PySem.W.codeIn K cd x = true) (k : PySem.W.keepIn K (.ref f) = true) : Df K mg x st :=
  ⟨f, _, PySem.W.mg_of X G a, fun_mk l c k⟩
theorem dfd_mk {x : Str} {st : Stmt} {f T : Addr} {od an od2 : Option Addr} {sl sl2 : Array (Option Value)} {n2 : Nat} {oc kV dc pm cd ct oc2 : Value} (X : K.In h) (G : h.Ns mainGlobals mg) (a : PySem.W.nsIn K mainGlobals x = some (some (.ref f)))
    (l : K.lookup f = some ⟨oc, od, .func (PySem.W.fnOf x x (defArgs st) (defBody st) (defScope st) (.ref T) kV dc pm an cd ct), sl⟩) (t : K.lookup T = some ⟨oc2, od2, .seq #[.none] n2, sl2⟩) (c : PySem.W.codeIn K cd x = true) (k : PySem.W.keepIn K (.ref f) = true) : DfD K mg x st [.non] :=
  ⟨f, _, PySem.W.mg_of X G a, ⟨⟨oc, od, _, kV, dc, pm, an, cd, ct, sl, rfl, l, c, .inr ⟨(by intro z; cases z), T, _, [.none], n2, rfl, t, rfl, .cons rfl .nil⟩, .inl rfl⟩, k⟩⟩
theorem cst_mk {x : Str} {i : Int} {t : Tok} (X : K.In h) (G : h.Ns mainGlobals mg) (a : PySem.W.nsIn K mainGlobals x = some (some (.int i t))) : ∃ t, mg x = some (.int i t) := ⟨t, PySem.W.mg_of X G a⟩
end
/-- all that the top has written -/
structure Top (K : PySem.W.Frag) (mg : Str → Option Value) : Prop where
  T : Tx mg
  d_is_whole : Df K mg "is_whole" s_is_whole
  d_is_within : Df K mg "is_within" s_is_within
  d_is_listed : Df K mg "is_listed" s_is_listed
  d_is_couple : Df K mg "is_couple" s_is_couple
  d_is_kind : Df K mg "is_kind" s_is_kind
  d_is_run : Df K mg "is_run" s_is_run
  d_is_sequence : Df K mg "is_sequence" s_is_sequence
  d_checked_runs : Df K mg "checked_runs" s_checked_runs
  d_waiting_number : Df K mg "waiting_number" s_waiting_number
  d_state_with : Df K mg "state_with" s_state_with
  d_leaving_number : Df K mg "leaving_number" s_leaving_number
  d_state_after_run : Df K mg "state_after_run" s_state_after_run
  d_add_range : Df K mg "add_range" s_add_range
  d_without_first : Df K mg "without_first" s_without_first
  d_ranges_after_run : Df K mg "ranges_after_run" s_ranges_after_run
  d_blocks_of_run : Df K mg "blocks_of_run" s_blocks_of_run
  d_add_block : Df K mg "add_block" s_add_block
  d_blocks_of : Df K mg "blocks_of" s_blocks_of
  d_pairs_in : Df K mg "pairs_in" s_pairs_in
  d_is_pair : Df K mg "is_pair" s_is_pair
  d_longest_wait : Df K mg "longest_wait" s_longest_wait
  d_is_pairing : Df K mg "is_pairing" s_is_pairing
  d_law_spring : Df K mg "_law_spring" s_law_spring
  d_law_draw : Df K mg "_law_draw" s_law_draw
  d_law_same : Df K mg "_law_same" s_law_same
  d_law_sequence : Df K mg "_law_sequence" s_law_sequence
  d_law_dressed : Df K mg "_law_dressed" s_law_dressed
  d_law_play : Df K mg "_law_play" s_law_play
  d_law_scaled : Df K mg "_law_scaled" s_law_scaled
  d_law_longest : Df K mg "_law_longest" s_law_longest
  d_law_changed : Df K mg "_law_changed" s_law_changed
  d_law_is_due : Df K mg "_law_is_due" s_law_is_due
  d_law_right : Df K mg "_law_right" s_law_right
theorem Top.law {P : Program} {w : World} {K : PySem.W.Frag} {mg : Str → Option Value} (Y : Top K mg) {f : Addr} {fd : FuncData} (F : Fun K "law" "law" s_law f fd) (base : Heap) : FnC P w K mg base f fd ["script"] (sp_law K) := by
  have T := Y.T
  have g_is_whole := ok_is_whole (P := P) (w := w) (base := base) Y.d_is_whole T
  have g_is_within := ok_is_within (P := P) (w := w) (base := base) Y.d_is_within g_is_whole
  have g_is_listed := ok_is_listed (P := P) (w := w) (base := base) Y.d_is_listed T
  have g_is_couple := ok_is_couple (P := P) (w := w) (base := base) Y.d_is_couple T
  have g_is_kind := ok_is_kind (P := P) (w := w) (base := base) Y.d_is_kind T
  have g_is_run := ok_is_run (P := P) (w := w) (base := base) Y.d_is_run T g_is_couple g_is_kind g_is_within
  have g_is_sequence := ok_is_sequence (P := P) (w := w) (base := base) Y.d_is_sequence T g_is_listed g_is_run
  have g_checked_runs := ok_checked_runs (P := P) (w := w) (base := base) Y.d_checked_runs T g_is_sequence
  have g_waiting_number := ok_waiting_number (P := P) (w := w) (base := base) Y.d_waiting_number
  have g_leaving_number := ok_leaving_number (P := P) (w := w) (base := base) Y.d_leaving_number T
  have g_state_with := ok_state_with (P := P) (w := w) (base := base) Y.d_state_with
  have g_state_after_run := ok_state_after_run (P := P) (w := w) (base := base) Y.d_state_after_run g_waiting_number g_state_with
  have g_law_draw := ok_law_draw (P := P) (w := w) (base := base) Y.d_law_draw T
  have g_law_spring := ok_law_spring (P := P) (w := w) (base := base) Y.d_law_spring T
  have g_law_sequence := ok_law_sequence (P := P) (w := w) (base := base) Y.d_law_sequence T g_law_draw
  have g_law_scaled := ok_law_scaled (P := P) (w := w) (base := base) Y.d_law_scaled
  have g_law_same := ok_law_same (P := P) (w := w) (base := base) Y.d_law_same T 2
  have g_law_dressed := ok_law_dressed (P := P) (w := w) (base := base) Y.d_law_dressed T g_law_draw 2
  have g_law_play := ok_law_play (P := P) (w := w) (base := base) Y.d_law_play T
  have g_without_first := ok_without_first (P := P) (w := w) (base := base) Y.d_without_first T
  have g_add_range := ok_add_range (P := P) (w := w) (base := base) Y.d_add_range
  have g_ranges_after_run := ok_ranges_after_run (P := P) (w := w) (base := base) Y.d_ranges_after_run g_without_first g_add_range
  have g_blocks_of_run := ok_blocks_of_run (P := P) (w := w) (base := base) Y.d_blocks_of_run T
  have g_add_block := ok_add_block (P := P) (w := w) (base := base) Y.d_add_block
  have g_blocks_of := ok_blocks_of (P := P) (w := w) (base := base) Y.d_blocks_of g_leaving_number g_blocks_of_run g_add_block g_ranges_after_run g_state_after_run
  have g_pairs_in := ok_pairs_in (P := P) (w := w) (base := base) Y.d_pairs_in T
  have g_longest_wait := ok_longest_wait (P := P) (w := w) (base := base) Y.d_longest_wait g_checked_runs g_blocks_of
  have g_is_pair := ok_is_pair (P := P) (w := w) (base := base) Y.d_is_pair g_is_couple g_is_whole
  have g_is_pairing := ok_is_pairing (P := P) (w := w) (base := base) Y.d_is_pairing T g_checked_runs g_blocks_of g_pairs_in g_is_listed g_is_pair
  have gD_is_whole := okD_is_whole (P := P) (w := w) (base := base) Y.d_is_whole T
  have gD_is_listed := okD_is_listed (P := P) (w := w) (base := base) Y.d_is_listed T
  have gD_is_couple := okD_is_couple (P := P) (w := w) (base := base) Y.d_is_couple T
  have gD_is_pair := okD_is_pair (P := P) (w := w) (base := base) Y.d_is_pair gD_is_couple gD_is_whole
  have gD_is_pairing := okD_is_pairing (P := P) (w := w) (base := base) Y.d_is_pairing T g_checked_runs g_blocks_of g_pairs_in gD_is_listed gD_is_pair
  have g_law_longest := ok_law_longest (P := P) (w := w) (base := base) Y.d_law_longest T
  have g_law_is_due := ok_law_is_due (P := P) (w := w) (base := base) Y.d_law_is_due T
  have g_law_changed := ok_law_changed (P := P) (w := w) (base := base) Y.d_law_changed T g_law_draw
  have g_law_right := okG_law_right (P := P) (w := w) (base := base) Y.d_law_right T g_law_draw g_law_play g_law_same g_law_longest g_law_changed g_law_is_due g_law_dressed g_longest_wait gD_is_pairing
  exact fn_law F T g_law_spring g_law_draw g_law_sequence g_law_scaled g_law_dressed g_law_play g_law_same g_law_longest g_law_right g_longest_wait gD_is_pairing
theorem all_mk {P : Program} {w : World} {K : PySem.W.Frag} {h : Heap} {mg : Str → Option Value} {fa f : Addr} {od an : Option Addr} {sl : Array (Option Value)} {oc kV dc pm cd ct : Value} (X : K.In h) (G : h.Ns mainGlobals mg) (hfa : mg "law" = some (.ref fa)) (a : PySem.W.nsIn K mainGlobals "law" = some (some (.ref f)))
    (l : K.lookup f = some ⟨oc, od, .func (PySem.W.fnOf "law" "law" (defArgs s_law) (defBody s_law) (defScope s_law) .none kV dc pm an cd ct), sl⟩) (c : PySem.W.codeIn K cd "law" = true) (k : PySem.W.keepIn K (.ref f) = true) (Y : Top K mg) :
    ∃ fd : FuncData, (∀ (s : Shared) (v : Value), BindsTo s fd ⟨[v], []⟩ [("script", v)]) ∧ ∀ base : Heap, K.In base → base.Ns mainGlobals mg → FnC P w K mg base fa fd ["script"] (sp_law K) := by
  have e := hfa.symm.trans (PySem.W.mg_of X G a)
  cases e
  exact ⟨_, fun s v => .of_eq rfl, fun base _ _ => Y.law (fun_mk (st := s_law) l c k) base⟩
end UP
open PySem PySem.W PyProof.Rows
set_option maxHeartbeats 0 in
theorem PySem.Challenge.cw_unlikepairs_k13_longest_waits_and_pairin_holds : PySem.Challenge.rw_unlikepairs_k13_longest_waits_and_pairin.Holds := by
  w_on; o_law; k_head; (case hw => w_witness2)
  k_fill
  refine UP.walkC (l := PySem.Challenge.rw_unlikepairs_k13_longest_waits_and_pairin) (n := 63) (x := "script") (sp := fun w => UP.sp_law _) rfl (by decide) rfl (fun w h Y => PySem.W.kIn_of Y) ?F (fun _ _ a ns hl hS => ⟨a, ns, rfl, hS, hl, fun _ => rfl⟩)
  case F =>
    intro w mg fa h KX G hmg
    refine' UP.all_mk KX G hmg ?a ?l ?c ?k ?Y
    (case a => k_is); (case l => k_is); (case c => k_is); (case k => k_is)
    case Y =>
      constructor
      · constructor
        · refine' PySem.W.mg_none_of KX G ?z; (case z => k_is)
        · refine' PySem.W.mg_none_of KX G ?z; (case z => k_is)
        · refine' PySem.W.mg_none_of KX G ?z; (case z => k_is)
        · refine' PySem.W.mg_none_of KX G ?z; (case z => k_is)
        · refine' PySem.W.mg_none_of KX G ?z; (case z => k_is)
        · refine' PySem.W.mg_none_of KX G ?z; (case z => k_is)
        · refine' PySem.W.mg_none_of KX G ?z; (case z => k_is)
        · refine' PySem.W.mg_none_of KX G ?z; (case z => k_is)
        · refine' PySem.W.mg_none_of KX G ?z; (case z => k_is)
        · refine' PySem.W.mg_none_of KX G ?z; (case z => k_is)
        · refine' PySem.W.mg_none_of KX G ?z; (case z => k_is)
        · refine' PySem.W.mg_none_of KX G ?z; (case z => k_is)
        · refine' PySem.W.mg_none_of KX G ?z; (case z => k_is)
        · refine' PySem.W.mg_none_of KX G ?z; (case z => k_is)
        · refine' PySem.W.mg_none_of KX G ?z; (case z => k_is)
        · refine' PySem.W.mg_none_of KX G ?z; (case z => k_is)
        · refine' PySem.W.mg_none_of KX G ?z; (case z => k_is)
        · refine' PySem.W.mg_none_of KX G ?z; (case z => k_is)
        · refine' PySem.W.mg_none_of KX G ?z; (case z => k_is)
        · refine' PySem.W.mg_none_of KX G ?z; (case z => k_is)
        · refine' PySem.W.mg_none_of KX G ?z; (case z => k_is)
        · refine' UP.cst_mk KX G ?z; (case z => k_is)
        · refine' UP.cst_mk KX G ?z; (case z => k_is)
        · refine' UP.cst_mk KX G ?z; (case z => k_is)
        · refine' UP.cst_mk KX G ?z; (case z => k_is)
      · refine' UP.df_mk KX G ?a ?l ?c ?k; (case a => k_is); (case l => k_is); (case c => k_is); (case k => k_is)
      · refine' UP.df_mk KX G ?a ?l ?c ?k; (case a => k_is); (case l => k_is); (case c => k_is); (case k => k_is)
      · refine' UP.df_mk KX G ?a ?l ?c ?k; (case a => k_is); (case l => k_is); (case c => k_is); (case k => k_is)
      · refine' UP.df_mk KX G ?a ?l ?c ?k; (case a => k_is); (case l => k_is); (case c => k_is); (case k => k_is)
      · refine' UP.df_mk KX G ?a ?l ?c ?k; (case a => k_is); (case l => k_is); (case c => k_is); (case k => k_is)
      · refine' UP.df_mk KX G ?a ?l ?c ?k; (case a => k_is); (case l => k_is); (case c => k_is); (case k => k_is)
      · refine' UP.df_mk KX G ?a ?l ?c ?k; (case a => k_is); (case l => k_is); (case c => k_is); (case k => k_is)
      · refine' UP.df_mk KX G ?a ?l ?c ?k; (case a => k_is); (case l => k_is); (case c => k_is); (case k => k_is)
      · refine' UP.df_mk KX G ?a ?l ?c ?k; (case a => k_is); (case l => k_is); (case c => k_is); (case k => k_is)
      · refine' UP.df_mk KX G ?a ?l ?c ?k; (case a => k_is); (case l => k_is); (case c => k_is); (case k => k_is)
      · refine' UP.df_mk KX G ?a ?l ?c ?k; (case a => k_is); (case l => k_is); (case c => k_is); (case k => k_is)
      · refine' UP.df_mk KX G ?a ?l ?c ?k; (case a => k_is); (case l => k_is); (case c => k_is); (case k => k_is)
      · refine' UP.df_mk KX G ?a ?l ?c ?k; (case a => k_is); (case l => k_is); (case c => k_is); (case k => k_is)
      · refine' UP.df_mk KX G ?a ?l ?c ?k; (case a => k_is); (case l => k_is); (case c => k_is); (case k => k_is)
      · refine' UP.df_mk KX G ?a ?l ?c ?k; (case a => k_is); (case l => k_is); (case c => k_is); (case k => k_is)
      · refine' UP.df_mk KX G ?a ?l ?c ?k; (case a => k_is); (case l => k_is); (case c => k_is); (case k => k_is)
      · refine' UP.df_mk KX G ?a ?l ?c ?k; (case a => k_is); (case l => k_is); (case c => k_is); (case k => k_is)
      · refine' UP.df_mk KX G ?a ?l ?c ?k; (case a => k_is); (case l => k_is); (case c => k_is); (case k => k_is)
      · refine' UP.df_mk KX G ?a ?l ?c ?k; (case a => k_is); (case l => k_is); (case c => k_is); (case k => k_is)
      · refine' UP.df_mk KX G ?a ?l ?c ?k; (case a => k_is); (case l => k_is); (case c => k_is); (case k => k_is)
      · refine' UP.df_mk KX G ?a ?l ?c ?k; (case a => k_is); (case l => k_is); (case c => k_is); (case k => k_is)
      · refine' UP.df_mk KX G ?a ?l ?c ?k; (case a => k_is); (case l => k_is); (case c => k_is); (case k => k_is)
      · refine' UP.df_mk KX G ?a ?l ?c ?k; (case a => k_is); (case l => k_is); (case c => k_is); (case k => k_is)
      · refine' UP.df_mk KX G ?a ?l ?c ?k; (case a => k_is); (case l => k_is); (case c => k_is); (case k => k_is)
      · refine' UP.df_mk KX G ?a ?l ?c ?k; (case a => k_is); (case l => k_is); (case c => k_is); (case k => k_is)
      · refine' UP.df_mk KX G ?a ?l ?c ?k; (case a => k_is); (case l => k_is); (case c => k_is); (case k => k_is)
      · refine' UP.df_mk KX G ?a ?l ?c ?k; (case a => k_is); (case l => k_is); (case c => k_is); (case k => k_is)
      · refine' UP.df_mk KX G ?a ?l ?c ?k; (case a => k_is); (case l => k_is); (case c => k_is); (case k => k_is)
      · refine' UP.df_mk KX G ?a ?l ?c ?k; (case a => k_is); (case l => k_is); (case c => k_is); (case k => k_is)
      · refine' UP.df_mk KX G ?a ?l ?c ?k; (case a => k_is); (case l => k_is); (case c => k_is); (case k => k_is)
      · refine' UP.df_mk KX G ?a ?l ?c ?k; (case a => k_is); (case l => k_is); (case c => k_is); (case k => k_is)
      · refine' UP.df_mk KX G ?a ?l ?c ?k; (case a => k_is); (case l => k_is); (case c => k_is); (case k => k_is)
      · refine' UP.df_mk KX G ?a ?l ?c ?k; (case a => k_is); (case l => k_is); (case c => k_is); (case k => k_is)
