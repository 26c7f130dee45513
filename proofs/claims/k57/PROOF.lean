import PyProof.Rows.All
import Wide.All
import OpenK.AllK
import Wide.FinOn
import HandS.ForMost
import HandS.Wide
import HandS.IsInst
import HandS.Defaults
import HandS.Codes
import HandS.Style
import PyProof.ReprRoads
import PyProof.ReprLen
import HandS.Zip
import HandS.NoneIn
import HandS.TupAny
import HandS.Small
import HandS.RaiseMore
import HandS.Text
import HandS.More
import HandS.FStr
import PyProof.StrOps2
import HandS.Iter
import KE.GoesZip
import KE.GoesMore
import PySem.Challenge.RW_unlikepairs_k57_console_and_station
set_option Elab.async false
set_option linter.all false
set_option maxRecDepth 100000
set_option maxHeartbeats 4000000
namespace UP
open PySem PySem.Spec PyProof.Rows L2

/-! ### a def that keeps a promise, by its name -/
section
variable (P : Program) (w : World) (K : PySem.W.Frag) (mg : Str → Option Value) (base : Heap)
def Has (k : Nat) (x : Str) (ps : List Str) (sp : Sp) : Prop :=
  ∃ f fd, mg x = some (.ref f) ∧ PySem.W.keepIn K (.ref f) = true ∧ Binds K fd ps [] ∧ FnOk P w K mg base CX0 k f fd ps sp
def Df (x : Str) (st : Stmt) : Prop := ∃ f fd, mg x = some (.ref f) ∧ Fun K x x st f fd
end
theorem Df.of {K : PySem.W.Frag} {mg : Str → Option Value} {x : Str} {st : Stmt} {f : Addr} {fd : FuncData} (g : mg x = some (.ref f)) (F : Fun K x x st f fd) : Df K mg x st := ⟨f, fd, g, F⟩
section
variable {P : Program} {w : World} {K : PySem.W.Frag} {mg : Str → Option Value} {base : Heap}
theorem has_of {x : Str} {st : Stmt} {ps N : List Str} {k : Nat} {sp : Sp} (D : Df K mg x st) (S : FnScope N ps (defScope st))
    (hb : ∀ (kV doc pm : Value) (an : Option Addr) (cdv ct : Value) (us : List Value), us.length = ps.length → bindArgs (PySem.W.fnOf x x (defArgs st) (defBody st) (defScope st) .none kV doc pm an cdv ct) ⟨us, []⟩ = pure (ps.zip us))
    (len : ∀ vs H Q E, sp vs H Q E → vs.length = ps.length)
    (body : ∀ (f : Addr) (cdv : Value) (A : Around) (outer : List Env) (s : Shared) (H : Hp) (vs : List V) (Q : VK) (E : XK), Room k (A.deeper (envOfC x (defScope st) s.heap.objs.size f cdv)) → sp vs H Q E →
      ∃ t, PSs (cxOf CX0 P w K mg base N x (defScope st) f cdv A outer s H E).nox (defBody st) t ∧ t { nx := fun _ H' => Q .non H', rt := Q } (start N vs) H) :
    Has P w K mg base (k + 1) x ps sp := by
  obtain ⟨f, fd, g, F⟩ := D
  exact ⟨f, fd, g, F.kp, F.binds hb, F.ok S len fun cdv A outer s H vs Q E hr h => body f cdv A outer s H vs Q E hr h⟩
theorem Has.weak {x : Str} {ps : List Str} {k : Nat} {sp sp' : Sp} (h : Has P w K mg base k x ps sp) (e : sp = sp') : Has P w K mg base k x ps sp' := e ▸ h
end
section
variable {X : Cx}
theorem pe_callH {k : Nat} {x : Str} {ps : List Str} {sp : Sp} {p pos : Pos} {e : Expr} {es : List Expr} {t : TA} (G : Has X.prog X.w X.K X.mg X.base k x ps sp) (hr : Room k X.A) (hg : Gl X x) (ha : PA X (e :: es) t)
    (hdb : (x == ("__debug__" : Str)) = false := by decide) (he : starEach (e :: es) X.env = (false, eval e X.env) :: starEach es X.env := by rfl) (hpl : (backTo pos (starEach es X.env)).any (·.1) = false := by rfl) :
    PE X (.Call (.Name x p) (e :: es) [] pos) (tCall sp [] E0 t) := by
  obtain ⟨f, fd, g, kp, b, F⟩ := G
  exact pe_call F hr hg g kp b .nil pass0 ha hdb he hpl
theorem pe_glI {x : Str} {i : Int} {pos : Pos} (h : ∃ t, X.mg x = some (.int i t)) (hg : Gl X x) (hd : (x == ("__debug__" : Str)) = false := by decide) : PE X (.Name x pos) (tC (.int i)) := by
  obtain ⟨t, h⟩ := h
  exact pe_glob hg h ⟨t, rfl⟩ hd
end

/-! ### heaps -/
theorem same_upd {H : Hp} {p : Addr} {o : HO} (h : H p = none) : Same H (upd H p o) := fun b x e => by
  rw [upd_ne (ne_of_none e h)]
  exact e
/-- all but the object at sp is as it was -/
def But (sp : Addr) (H H' : Hp) : Prop := ∀ b o, b ≠ sp → H b = some o → H' b = some o
theorem Same.but {sp : Addr} {H H' : Hp} (h : Same H H') : But sp H H' := fun b o _ e => h b o e
theorem But.trans {sp : Addr} {H H1 H2 : Hp} (a : But sp H H1) (b : But sp H1 H2) : But sp H H2 := fun c o n e => b c o n (a c o n e)
theorem But.refl {sp : Addr} {H : Hp} : But sp H H := fun _ _ _ e => e
theorem but_upd {sp : Addr} {H : Hp} {o : HO} : But sp H (upd H sp o) := fun b x n e => by
  rw [upd_ne n]
  exact e
theorem small {n : Nat} (h : n ≤ 1000000) : n < sizeLine := Nat.lt_of_le_of_lt h (by decide)
theorem smallE {n : Nat} (h : n ≤ 1000000) : n ≤ sizeLine := Nat.le_of_lt (small h)

/-! ### runs and states -/
abbrev Run := Str × Int
def RunV (H : Hp) (v : V) (r : Run) : Prop := ∃ t, v = .ref t ∧ H t = some (.tup [.str r.1, .int r.2])
def Runs (H : Hp) (a : Addr) (rs : List Run) : Prop := ∃ xs, H a = some (.lst xs) ∧ Paired (RunV H) xs rs
def StV (H : Hp) (v : V) : Option Run → Prop
  | none => v = .non
  | some r => RunV H v r
theorem RunV.same {H H' : Hp} {v : V} {r : Run} (s : Same H H') (h : RunV H v r) : RunV H' v r := by
  obtain ⟨t, e, h⟩ := h
  exact ⟨t, e, s _ _ h⟩
theorem Paired.len {α β : Type} {F : α → β → Prop} : ∀ {l₁ : List α} {l₂ : List β}, Paired F l₁ l₂ → l₁.length = l₂.length
  | _, _, .nil => rfl
  | _, _, .cons _ t => congrArg Nat.succ (Paired.len t)
theorem Paired.at {α β : Type} {F : α → β → Prop} : ∀ {l₁ : List α} {l₂ : List β} {i : Nat} {x : α}, Paired F l₁ l₂ → l₁[i]? = some x → ∃ y, l₂[i]? = some y ∧ F x y
  | _, _, _, _, .nil, h => by simp at h
  | _, _, 0, _, .cons h _, e => by
    simp only [List.getElem?_cons_zero, Option.some.injEq] at e
    subst e
    exact ⟨_, by simp, h⟩
  | _, _, i + 1, _, .cons _ t, e => by
    simp only [List.getElem?_cons_succ] at e ⊢
    exact Paired.at t e
theorem Paired.at' {α β : Type} {F : α → β → Prop} : ∀ {l₁ : List α} {l₂ : List β} {i : Nat} {y : β}, Paired F l₁ l₂ → l₂[i]? = some y → ∃ x, l₁[i]? = some x ∧ F x y
  | _, _, _, _, .nil, h => by simp at h
  | _, _, 0, _, .cons h _, e => by
    simp only [List.getElem?_cons_zero, Option.some.injEq] at e
    subst e
    exact ⟨_, by simp, h⟩
  | _, _, i + 1, _, .cons _ t, e => by
    simp only [List.getElem?_cons_succ] at e ⊢
    exact Paired.at' t e
theorem Paired.imp {α β : Type} {F G : α → β → Prop} (f : ∀ a b, F a b → G a b) : ∀ {l₁ : List α} {l₂ : List β}, Paired F l₁ l₂ → Paired G l₁ l₂
  | _, _, .nil => .nil
  | _, _, .cons h t => .cons (f _ _ h) (Paired.imp f t)
theorem Paired.app {α β : Type} {F : α → β → Prop} : ∀ {l₁ m₁ : List α} {l₂ m₂ : List β}, Paired F l₁ l₂ → Paired F m₁ m₂ → Paired F (l₁ ++ m₁) (l₂ ++ m₂)
  | _, _, _, _, .nil, h => h
  | _, _, _, _, .cons h t, k => .cons h (Paired.app t k)
theorem Paired.dropp {α β : Type} {F : α → β → Prop} : ∀ {l₁ : List α} {l₂ : List β} (n : Nat), Paired F l₁ l₂ → Paired F (l₁.drop n) (l₂.drop n)
  | _, _, 0, h => h
  | _, _, n + 1, .nil => .nil
  | _, _, n + 1, .cons _ t => by
    simp only [List.drop_succ_cons]
    exact Paired.dropp n t
theorem Paired.takep {α β : Type} {F : α → β → Prop} : ∀ {l₁ : List α} {l₂ : List β} (n : Nat), Paired F l₁ l₂ → Paired F (l₁.take n) (l₂.take n)
  | _, _, 0, h => by simp only [List.take_zero]; exact .nil
  | _, _, n + 1, .nil => .nil
  | _, _, n + 1, .cons h t => by
    simp only [List.take_succ_cons]
    exact .cons h (Paired.takep n t)
theorem Runs.same {H H' : Hp} {a : Addr} {rs : List Run} (s : Same H H') (h : Runs H a rs) : Runs H' a rs := by
  obtain ⟨xs, e, p⟩ := h
  exact ⟨xs, s _ _ e, Paired.imp (fun _ _ => RunV.same s) p⟩
theorem StV.same {H H' : Hp} {v : V} {st : Option Run} (s : Same H H') (h : StV H v st) : StV H' v st := by
  cases st with
  | none => exact h
  | some r => exact RunV.same s h
/-- the spring: a list of three ints -/
def Spr (H : Hp) (sp : Addr) : Prop := ∃ d s c : Int, H sp = some (.lst [.int d, .int s, .int c]) ∧ 0 ≤ d ∧ d.natAbs < 2 ^ 20000 ∧ 0 ≤ s ∧ s < 2305843009213693951
theorem RunV.but {H H' : Hp} {sp : Addr} {v : V} {r : Run} (z : Spr H sp) (s : But sp H H') (h : RunV H v r) : RunV H' v r := by
  obtain ⟨t, e, h⟩ := h
  obtain ⟨_, _, _, hs, _⟩ := z
  exact ⟨t, e, s _ _ (ne_of h hs (by intro q; cases q)) h⟩
theorem Runs.ne {H : Hp} {sp a : Addr} {rs : List Run} (z : Spr H sp) (h : Runs H a rs) : a ≠ sp := by
  obtain ⟨xs, e, p⟩ := h
  obtain ⟨d, s, c, hs, _⟩ := z
  refine ne_of e hs fun q => ?_
  have q := HO.lst.inj q
  subst q
  cases p with
  | cons h _ =>
    obtain ⟨t, e, _⟩ := h
    cases e
theorem Runs.but {H H' : Hp} {sp a : Addr} {rs : List Run} (z : Spr H sp) (s : But sp H H') (h : Runs H a rs) : Runs H' a rs := by
  have n := Runs.ne z h
  obtain ⟨xs, e, p⟩ := h
  exact ⟨xs, s _ _ n e, Paired.imp (fun _ _ => RunV.but z s) p⟩
theorem StV.but {H H' : Hp} {sp : Addr} {v : V} {st : Option Run} (z : Spr H sp) (s : But sp H H') (h : StV H v st) : StV H' v st := by
  cases st with
  | none => exact h
  | some r => exact RunV.but z s h
theorem Spr.same {H H' : Hp} {sp : Addr} (z : Spr H sp) (s : Same H H') : Spr H' sp := by
  obtain ⟨d, e, c, hs, r⟩ := z
  exact ⟨d, e, c, s _ _ hs, r⟩
def KindOk (s : Str) : Prop := 1 ≤ s.length ∧ s.length ≤ 8 ∧ ∀ c ∈ s.cps.toList, 97 ≤ c ∧ c ≤ 122
def RunOk (r : Run) : Prop := KindOk r.1 ∧ 1 ≤ r.2 ∧ r.2 ≤ 1000000000000000000000000000000
def Alt (rs : List Run) : Prop := ∀ (i : Nat) (x y : Run), rs[i]? = some x → rs[i + 1]? = some y → x.1 ≠ y.1
def SeqOk (rs : List Run) : Prop := rs.length ≤ 400 ∧ (∀ r ∈ rs, RunOk r) ∧ Alt rs
end UP

set_option Elab.async false
set_option linter.all false
set_option maxRecDepth 100000
set_option maxHeartbeats 4000000
namespace UP
open PySem PySem.Spec PyProof.Rows L2
/-! ### repr of plain data, where no other repr is under way -/
def rRepr (K : PySem.W.Frag) : List V → Hp → VK → Prop := fun xs H Q => ∃ (a : Addr) (d : PyData), xs = [.ref a] ∧ Dp K H (.ref a) d ∧ d.showable = true ∧ SeqAt.shaped d = true ∧ d.shown.length ≤ sizeLine ∧ Q (.str d.shown) H
theorem call_reprD {X : Cx} (hg : X.A.guards = some []) (hu : X.A.units + 70 < cLine) : CallR X (.builtin "repr") (rRepr X.K) := by
  intro pins s σ H xs us Q I r h
  obtain ⟨a, d, rfl, dp, sh, sp, sz, q⟩ := h
  obtain ⟨u, rfl, ru⟩ := vals1 r
  cases (show u = Value.ref a from ru)
  obtain ⟨as, rd⟩ := Dp.reads I d (.ref a) (.ref a) dp rfl
  have dd := SeqAt.depth_of_shaped sp
  refine repr_of_reads' rd sh (PyData.noDict_hsm (PyData.hasDict_of_canLay d (SeqAt.canLay_of_shaped sp))) hg (by omega) (fun _ _ e => e) (fun h' u tk hk => ?_) sz
  exact ⟨.str d.shown, H, I.kept (t' := tk) hk, ⟨u, rfl⟩, q⟩
/-! ### the law's own call, around it nothing -/
structure FnC (P : Program) (w : World) (K : PySem.W.Frag) (mg : Str → Option Value) (base : Heap) (f : Addr) (fd : FuncData) (ps : List Str) (sp : Sp) : Prop where
  go : ∀ (out : List Env) (s : Shared) (H : Hp) (args : Args) (us : List Value) (vs : List V) (Q : VK) (E : XK), Env0 P w K mg base callerA out s H → BindsTo s fd args (ps.zip us) → Vals vs us → sp vs H Q E →
    codeAny (model P w) callerA (.call (.ref f) args) (CR CX0 out P w H s Q E) s
theorem callerA_room : Room 8 callerA := ⟨rfl, by decide, by decide⟩
section
variable {P : Program} {w : World} {K : PySem.W.Frag} {mg : Str → Option Value} {base : Heap}
theorem fnC_of {x : Str} {st : Stmt} {f : Addr} {fd : FuncData} {ps N : List Str} {sp : Sp} (F : Fun K x x st f fd) (S : FnScope N ps (defScope st)) (len : ∀ vs H Q E, sp vs H Q E → vs.length = ps.length)
    (body : ∀ (cdv : Value) (out : List Env) (s : Shared) (H : Hp) (vs : List V) (Q : VK) (E : XK), Room 7 (callerA.deeper (envOfC x (defScope st) s.heap.objs.size f cdv)) → sp vs H Q E →
      ∃ t, PSs (cxOf CX0 P w K mg base N x (defScope st) f cdv callerA out s H E).nox (defBody st) t ∧ t { nx := fun _ H' => Q .non H', rt := Q } (start N vs) H) : FnC P w K mg base f fd ps sp := by
  obtain ⟨oc, od, kV, doc, pm, an, cdv, ct, osl, rfl, lk, hcd⟩ := F.ex
  refine ⟨fun out s H args us vs Q E e0 hb rv hsp => ?_⟩
  have inS : K.In s.heap := e0.mod.kin.keeps fun b o z => (e0.bs b o z).1
  have noL : s.heap.NoLimit := e0.mod.nolimit.keeps fun b o z => (e0.bs b o z).1
  have kinds : ∀ y ∈ ps.zip us, (defScope st).names.lookup y.1 = some .local ∨ ((defScope st).names.lookup y.1 = some .cell ∧ ((cellsFrom (s.heap.objs.size + 1) (defScope st).names []).lookup y.1).isSome = true) := by
    intro y hy
    rcases S.par y.1 (List.of_mem_zip (a := y.1) (b := y.2) hy).1 with z | z
    · exact Or.inl z
    · exact Or.inr ⟨z, PySem.W.cellsFrom_some _ _ _ (Or.inl z)⟩
  refine codeAny_call_function callerA_room.depth (inS _ _ lk) rfl S.co S.gen rfl (PySem.W.codeRec_of inS hcd) (hb _ _ _ _ ?_)
  refine wpAny_newFunctionEnv_cells S.kind kinds fun env he s1 inC => ?_
  subst he
  refine ⟨noL.keeps inC.toInCall.keep, codeAny_func ?_⟩
  obtain ⟨t, ht0, hq⟩ := body cdv out s H vs Q E (callerA_room.deeper _) hsp
  have ht := PSs.nox ht0
  have I0 : Inv (cxOf CX0 P w K mg base N x (defScope st) f cdv callerA out s H E) [] (start N vs) H s1 := inv_start S rfl e0 (len _ _ _ _ hsp) rv inC
  refine wpAny_mono (ht.run [] s1 (start N vs) H _ I0 hq) (fun fl s2 h2 => ?_) fun _ _ z => z
  cases fl with
  | next =>
    obtain ⟨σ2, H2, J, q2⟩ := h2
    exact ⟨V.non, H2, J.os, J.bare, J.base, J.hok, rfl, q2⟩
  | ret u =>
    obtain ⟨v, σ2, H2, J, rv2, q2⟩ := h2
    exact ⟨v, H2, J.os, J.bare, J.base, J.hok, rv2, q2⟩
  | brk =>
    obtain ⟨_, _, _, z⟩ := h2
    exact z.elim
  | cont =>
    obtain ⟨_, _, _, z⟩ := h2
    exact z.elim
end
/-- the heap that holds the script alone, locked -/
def oneH (a : Addr) (o : Obj) (xs : List V) : Hp := fun b => if b = a then some (.frz o (.lst xs)) else none
theorem run_law {P : Program} {w : World} {K : PySem.W.Frag} {mg mb : Str → Option Value} {fa a : Addr} {fd : FuncData} {x : Str} {sp : Sp} {s : Shared} {vs : List Value} {ns : List Int}
    (kx : K.In s.heap) (gns : s.heap.Ns mainGlobals mg) (bns : s.heap.Ns builtinsNs mb) (bb : ∀ y : Str, y ≠ "__name__" → mb y = bootBuiltins y) (nl : s.heap.NoLimit) (gens : s.gens = #[])
    (ob : s.heap.get? a = some { cls := .type "list", data := .seq vs.toArray }) (hin : IntsAre vs ns) (len : ns.length ≤ sizeLine) (F : ∀ base : Heap, K.In base → base.Ns mainGlobals mg → FnC P w K mg base fa fd [x] sp)
    (bind : ∀ (s : Shared) (u : Value), BindsTo s fd ⟨[u], []⟩ [(x, u)]) (hsp : ∀ H : Hp, SqL K H a (ns.map V.int) → sp [.ref a] H (fun v _ => v = .bl true) fun _ _ _ => False) :
    codeAny (model P w) callerA (.call (.ref fa) ⟨[.ref a], []⟩) (fun r s' => r = .ok (.ret (.bool true)) ∧ OldK s.heap s'.heap ∧ s'.os = s.os ∧ AllBare s'.gens) s := by
  have rel := vals_ints hin
  have step : ∀ H : Hp, (H = (fun _ => none) ∨ (H = oneH a { cls := .type "list", data := .seq vs.toArray } (ns.map V.int) ∧ K.lookup a = none)) → SqL K H a (ns.map V.int) → HOk P w H s.heap →
      codeAny (model P w) callerA (.call (.ref fa) ⟨[.ref a], []⟩) (fun r s' => r = .ok (.ret (.bool true)) ∧ OldK s.heap s'.heap ∧ s'.os = s.os ∧ AllBare s'.gens) s := by
    intro H hH hS hok
    have only : ∀ b u, H b = some u → b = a ∧ u = .frz { cls := .type "list", data := .seq vs.toArray } (.lst (ns.map V.int)) ∧ K.lookup a = none := by
      intro b u e
      rcases hH with z | ⟨z, z2⟩
      · rw [z] at e
        cases e
      · rw [z] at e
        by_cases hb : b = a
        · have e := (if_pos hb).symm.trans e
          cases e
          exact ⟨hb, rfl, z2⟩
        · have e := (if_neg hb).symm.trans e
          cases e
    have free : ∀ {b : Addr} {o : Obj}, s.heap.get? b = some o → (b = a → False) → (hidT s.heap H).get? b = some o := by
      intro b o e n
      refine hidT_get e ?_
      cases q : H b with
      | none => rfl
      | some u => exact (n (only b u q).1).elim
    have nss : ∀ {b : Addr} {m : Str → Option Value}, s.heap.Ns b m → (hidT s.heap H).Ns b m := by
      intro b m ⟨o, es, ep, e, d, r⟩
      refine ⟨o, es, ep, free e fun z => ?_, d, r⟩
      subst z
      rw [ob] at e
      cases e
      cases d
    have kb : K.In (hidT s.heap H) := by
      intro b o e
      refine hidT_get (kx b o e) ?_
      cases q : H b with
      | none => rfl
      | some u =>
        obtain ⟨z1, _, z2⟩ := only b u q
        rw [z1, z2] at e
        cases e
    have md : Mod K mg (hidT s.heap H) := ⟨kb, nss gns, ⟨mb, nss bns, bb⟩, by obtain ⟨mc, h1, h2⟩ := nl; exact ⟨mc, nss h1, h2⟩⟩
    have env : Env0 P w K mg (hidT s.heap H) callerA [] s H := ⟨rfl, md, fun b o e => of_hidT e, Nat.le_of_eq (hidT_size _ _), trivial, (fun b hb => by cases hb), hok, .of_eq gens⟩
    refine codeAny_mono ((F _ kb (nss gns)).go [] s H ⟨[.ref a], []⟩ [.ref a] [.ref a] _ _ env (bind s (.ref a)) (.cons rfl .nil) (hsp H hS)) fun r s' h => ?_
    cases r with
    | error e => exact h.elim
    | ok fl =>
      cases fl with
      | next => exact h.elim
      | brk => exact h.elim
      | cont => exact h.elim
      | ret u =>
        obtain ⟨v, H', o1, o2, un, hok', rv, q⟩ := h
        have q : v = .bl true := q
        subst q
        cases (show u = Value.bool true from rv)
        refine ⟨rfl, OldK.of_keep fun b o e => ?_, o1, o2⟩
        cases q : H b with
        | none => exact un.keep b o e q (fun z => by cases z) (fun z => by cases z)
        | some u =>
          obtain ⟨_, z, _⟩ := only b u q
          subst z
          obtain ⟨e1, _⟩ := hok b _ q
          obtain ⟨e2, _⟩ := hok' b _ (un.frzs b _ _ q)
          rw [e] at e1
          cases e1
          exact e2
  cases hk : K.lookup a with
  | some o =>
    have e := kx a o hk
    rw [ob] at e
    cases e
    refine step (fun _ => none) (.inl rfl) (.inr ⟨_, vs.toArray, _, hk, rfl, rfl, rfl, ?_, by simpa using rel⟩) fun b u z => by cases z
    rw [List.size_toArray, hin.length]
    exact len
  | none =>
    have at_a : oneH a { cls := .type "list", data := .seq vs.toArray } (ns.map V.int) a = some (.frz { cls := .type "list", data := .seq vs.toArray } (.lst (ns.map V.int))) := if_pos rfl
    refine step _ (.inr ⟨rfl, hk⟩) (.inl (.inr ⟨_, at_a⟩)) fun b u z => ?_
    by_cases hb : b = a
    · subst hb
      rw [at_a] at z
      cases z
      exact ⟨ob, by rw [List.length_map]; exact len, vs, _, rel, ob⟩
    · have z := (if_neg hb).symm.trans z
      cases z
theorem walkC {l : PySem.W.OpenLaw} {n : Nat} {q : Program} {loose : List Str} {XP : (Str → Option Value) → Heap → Prop} {YP : World → Heap → Prop} {d : DefRec} {K : Params → PySem.W.Frag} {sp : World → Sp} {x : Str}
    (hn : l.most = some n) (n2 : n ≤ sizeLine) (df : d.params.defaults = []) (hY : ∀ (w : World) (h : Heap), YP w h → (K w.params).In h)
    (F : ∀ (w : World) (mg : Str → Option Value) (fa : Addr) (h : Heap), (K w.params).In h → h.Ns mainGlobals mg → mg d.name = some (.ref fa) →
      ∃ fd : FuncData, (∀ (s : Shared) (u : Value), BindsTo s fd ⟨[u], []⟩ [(x, u)]) ∧ ∀ base : Heap, (K w.params).In base → base.Ns mainGlobals mg → FnC l.prog w (K w.params) mg base fa fd [x] (sp w))
    (hsp : ∀ (w : World) (H : Hp) (a : Addr) (ns : List Int), ns.length ≤ n → SqL (K w.params) H a (ns.map V.int) → sp w [.ref a] H (fun v _ => v = .bl true) fun _ _ _ => False) :
    PySem.W.WalkO q loose XP YP l.row.toRowW d [] (fun f vs => PySem.call f vs) := by
  refine Att.attach_call hn df fun w s₀ s mg mb fa o pm cd doc a vs ns G Y ho hd hcd hmg hobj hints hlen hg => ?_
  have kx := hY w _ Y
  obtain ⟨fd, hb, hF⟩ := F w mg fa _ kx G.T.g hmg
  exact run_law kx G.T.g G.T.b G.T.builtins G.T.nolimit hg hobj hints (Nat.le_trans hlen n2) hF hb fun H hS => hsp w H a ns hlen hS
end UP

set_option Elab.async false
set_option linter.all false
set_option maxRecDepth 100000
set_option maxHeartbeats 4000000
namespace UP
open PySem PySem.Spec PyProof.Rows L2
/-! ### lists or tuples -/
def Sq2 (H : Hp) (a : Addr) (xs : List V) : Prop := H a = some (.lst xs) ∨ H a = some (.tup xs)
theorem Sq2.same {H H' : Hp} {a : Addr} {xs : List V} (s : Same H H') (h : Sq2 H a xs) : Sq2 H' a xs := h.elim (fun z => .inl (s _ _ z)) (fun z => .inr (s _ _ z))
/-- a walk over the items xs, from the heap H on -/
structure Wk (J : It) (H : Hp) (xs : List V) : Prop where
  go : ∀ i H', Same H H' → i < xs.length → J.go i H'
  stop : ∀ H', Same H H' → J.stop xs.length H'
  yld : ∀ i x H' H'', Same H H' → J.yld i H' x H'' → H'' = H' ∧ xs[i]? = some x
theorem wk_list {K : PySem.W.Frag} {H : Hp} {a : Addr} {xs : List V} (h : H a = some (.lst xs)) : Wk (Itl K a) H xs :=
  ⟨fun i H' s hi => ⟨xs, xs[i], .of (s _ _ h), List.getElem?_eq_getElem hi⟩, fun H' s => ⟨xs, .of (s _ _ h), Nat.le_refl _⟩, fun i x H' H'' s y => ⟨y.1, y.2 xs (.of (s _ _ h))⟩⟩
theorem wk_tup {K : PySem.W.Frag} {H : Hp} {a : Addr} {xs : List V} (h : H a = some (.tup xs)) : Wk (Itt K a) H xs :=
  ⟨fun i H' s hi => ⟨xs, xs[i], .of (s _ _ h), List.getElem?_eq_getElem hi⟩, fun H' s => ⟨xs, .of (s _ _ h), Nat.le_refl _⟩, fun i x H' H'' s y => ⟨y.1, y.2 xs (.of (s _ _ h))⟩⟩
def iSeqV (i : Nat) : TI := fun σ H R => ∃ a xs, σ[i]? = some (some (.ref a)) ∧ Sq2 H a xs ∧ ∀ J, Wk J H xs → R J H
section
variable {X : Cx}
theorem pi_seqV (i : Nat) {x : Str} {pos : Pos} {tg : Expr} (hN : X.N[i]? = some x := by rfl) (hv : Vis X.env.scope x := by first | exact Or.inl rfl | exact Or.inr (Or.inl rfl) | exact Or.inr (Or.inr rfl)) (hd : (x == ("__debug__" : Str)) = false := by decide)
    (hc : (x == ("__classdict__" : Str)) = false := by decide) : PI X tg (.Name x pos) (iSeqV i) := by
  refine ⟨fun pins s σ H R I hw => ?_⟩
  obtain ⟨a, xs, e, h, k⟩ := hw
  rcases h with h | h
  · exact (pi_list (pe_var hN hv hd hc)).run pins s σ H R I ⟨_, e, a, rfl, ⟨xs, .of h⟩, k _ (wk_list h)⟩
  · exact (pi_tup (pe_var hN hv hd hc)).run pins s σ H R I ⟨_, e, a, rfl, ⟨xs, .of h⟩, k _ (wk_tup h)⟩
def gAny (n : Nat) (t : TGs) : TG := fun v σ H Q => ∃ a xs, v = .ref a ∧ Sq2 H a xs ∧ xs.length = n ∧ t xs σ H Q
theorem pg_any {es : List Expr} {k n : Nat} {t : TGs} {pos : Pos} (hc : X.calm = true) (h : PGs X es t) (hn : (assignEach es X.env).length = n := by rfl) (hst : (assignEach es X.env).findIdx? (fun z => z.1) = none := by rfl) : PG X (.Tuple es k pos) (gAny n t) := by
  refine ⟨fun pins s σ H v u Q I r hw => ?_⟩
  obtain ⟨a, xs, e, hx, hl, hw⟩ := hw
  rcases hx with z | z
  · exact (pg_unl hc h hn hst).run pins s σ H v u Q I r ⟨a, xs, e, .of z, hl, hw⟩
  · exact (pg_tup hc h hn hst).run pins s σ H v u Q I r ⟨a, xs, e, .of z, hl, hw⟩
/-- zip(x, x[1:]) -/
structure WkZ (J : It) (H : Hp) (xs : List V) : Prop where
  go : ∀ i H', Same H H' → i + 1 < xs.length → J.go i H'
  stop : ∀ H', Same H H' → J.stop (xs.length - 1) H'
  yld : ∀ i x H' H'', Same H H' → J.yld i H' x H'' → ∃ T x1 x2, x = .ref T ∧ H' T = none ∧ H'' = upd H' T (.tup [x1, x2]) ∧ xs[i]? = some x1 ∧ (i + 1 < xs.length → xs[i + 1]? = some x2)
def iZip1 (i : Nat) : TI := fun σ H R => ∃ a xs, σ[i]? = some (some (.ref a)) ∧ Sq2 H a xs ∧ ∀ J H', Same H H' → WkZ J H' xs → R J H'
theorem cutt_one (xs : List V) : cutV xs (some 1) none = xs.drop 1 := by
  have e : HT.sIx xs.length 0 (some 1) = min 1 xs.length := HT.sIx_nat xs.length 0 1
  unfold cutV
  rw [e, HT.sIx_none]
  cases xs with
  | nil => rfl
  | cons x r =>
    have e1 : min 1 (x :: r).length = 1 := by simp only [List.length_cons]; omega
    rw [e1]
    simp
theorem pi_zip1 {i : Nat} {tg it : Expr} {tl th : TO} (h : PI X tg it (RZ.iZipA X.K (tCons (tVar i) (tCons (tSl (fun x lo hi H Q => rSlL X.K x lo hi H Q ∨ rSlA X.K x lo hi H Q) (tVar i) tl th) tNil))))
    (h1 : ∀ (σ : L2.St) (H : Hp) (Q : Option Int → Hp → Prop), Q (some 1) H → tl σ H Q) (h2 : ∀ (σ : L2.St) (H : Hp) (Q : Option Int → Hp → Prop), Q none H → th σ H Q) : PI X tg it (iZip1 i) := by
  refine ⟨fun pins s σ H R I hw => h.run pins s σ H R I ?_⟩
  obtain ⟨a, xs, e, hx, k⟩ := hw
  refine ⟨_, e, _, e, h1 σ H _ (h2 σ H _ ?_)⟩
  have gn : ∀ j : Nat, (xs.drop 1)[j]? = xs[j + 1]? := fun j => by rw [List.getElem?_drop, Nat.add_comm 1 j]
  rcases hx with hx | hx
  · refine .inl ⟨a, xs, rfl, .of hx, fun c nc => ?_⟩
    have sc : Same H (upd H c (.lst (cutV xs (some 1) none))) := fun b o z => by rw [upd_ne (ne_of_none z nc)]; exact z
    have hc : (upd H c (.lst (cutV xs (some 1) none))) c = some (.lst (xs.drop 1)) := by rw [upd_same, cutt_one]
    refine ⟨a, c, xs, xs.drop 1, rfl, .inl ⟨.of (sc _ _ hx), .of hc, k _ _ sc ⟨fun j H' sj hj => ?_, fun H' sj => ?_, fun j x H' H'' sj y => ?_⟩⟩⟩
    · exact ⟨xs, xs.drop 1, xs[j], xs[j + 1], .of (sj _ _ (sc _ _ hx)), .of (sj _ _ hc), List.getElem?_eq_getElem (by omega), by rw [gn]; exact List.getElem?_eq_getElem hj⟩
    · exact ⟨xs, xs.drop 1, .of (sj _ _ (sc _ _ hx)), .of (sj _ _ hc), .inr (by rw [List.length_drop]; exact Nat.le_refl _)⟩
    · obtain ⟨T, x1, x2, e1, e2, e3, f1, f2⟩ := y
      exact ⟨T, x1, x2, e1, e2, e3, f1 xs (.of (sj _ _ (sc _ _ hx))), fun _ => by rw [← gn]; exact f2 _ (.of (sj _ _ hc))⟩
  · refine .inr ⟨a, xs, rfl, .of hx, fun z => ?_, fun z c nc => ?_⟩
    · have lz : xs.length = 0 := by
        have z1 := z.1
        rw [show HT.sIx xs.length 0 (some 1) = min 1 xs.length from HT.sIx_nat xs.length 0 1] at z1
        omega
      refine ⟨a, a, xs, xs, rfl, .inr ⟨.of hx, .of hx, k _ _ (Same.refl _) ⟨fun j H' sj hj => by omega, fun H' sj => ⟨xs, xs, .of (sj _ _ hx), .of (sj _ _ hx), .inl (by omega)⟩, fun j x H' H'' sj y => ?_⟩⟩⟩
      obtain ⟨T, x1, x2, e1, e2, e3, f1, f2⟩ := y
      exact ⟨T, x1, x2, e1, e2, e3, f1 xs (.of (sj _ _ hx)), fun hj => by omega⟩
    · have sc : Same H (upd H c (.tup (cutV xs (some 1) none))) := fun b o z => by rw [upd_ne (ne_of_none z nc)]; exact z
      have hc : (upd H c (.tup (cutV xs (some 1) none))) c = some (.tup (xs.drop 1)) := by rw [upd_same, cutt_one]
      refine ⟨a, c, xs, xs.drop 1, rfl, .inr ⟨.of (sc _ _ hx), .of hc, k _ _ sc ⟨fun j H' sj hj => ?_, fun H' sj => ?_, fun j x H' H'' sj y => ?_⟩⟩⟩
      · exact ⟨xs, xs.drop 1, xs[j], xs[j + 1], .of (sj _ _ (sc _ _ hx)), .of (sj _ _ hc), List.getElem?_eq_getElem (by omega), by rw [gn]; exact List.getElem?_eq_getElem hj⟩
      · exact ⟨xs, xs.drop 1, .of (sj _ _ (sc _ _ hx)), .of (sj _ _ hc), .inr (by rw [List.length_drop]; exact Nat.le_refl _)⟩
      · obtain ⟨T, x1, x2, e1, e2, e3, f1, f2⟩ := y
        exact ⟨T, x1, x2, e1, e2, e3, f1 xs (.of (sj _ _ (sc _ _ hx))), fun _ => by rw [← gn]; exact f2 _ (.of (sj _ _ hc))⟩
end
/-! ### runs and states, dressed -/
def RunG (H : Hp) (v : V) (r : Run) : Prop := ∃ t, v = .ref t ∧ Sq2 H t [.str r.1, .int r.2]
def RunsG (H : Hp) (v : V) (rs : List Run) : Prop := ∃ a xs, v = .ref a ∧ Sq2 H a xs ∧ Paired (RunG H) xs rs
def StG (H : Hp) (v : V) : Option Run → Prop
  | none => v = .non
  | some r => RunG H v r
theorem RunG.same {H H' : Hp} {v : V} {r : Run} (s : Same H H') (h : RunG H v r) : RunG H' v r := by
  obtain ⟨t, e, h⟩ := h
  exact ⟨t, e, h.same s⟩
theorem RunsG.same {H H' : Hp} {v : V} {rs : List Run} (s : Same H H') (h : RunsG H v rs) : RunsG H' v rs := by
  obtain ⟨a, xs, e, hx, p⟩ := h
  exact ⟨a, xs, e, hx.same s, Paired.imp (fun _ _ => RunG.same s) p⟩
theorem StG.same {H H' : Hp} {v : V} {st : Option Run} (s : Same H H') (h : StG H v st) : StG H' v st := by
  cases st with
  | none => exact h
  | some r => exact RunG.same s h
theorem RunV.dress {H : Hp} {v : V} {r : Run} (h : RunV H v r) : RunG H v r := by
  obtain ⟨t, e, h⟩ := h
  exact ⟨t, e, .inr h⟩
theorem Runs.dress {H : Hp} {a : Addr} {rs : List Run} (h : Runs H a rs) : RunsG H (.ref a) rs := by
  obtain ⟨xs, hx, p⟩ := h
  exact ⟨a, xs, rfl, .inl hx, Paired.imp (fun _ _ => RunV.dress) p⟩
theorem StV.dress {H : Hp} {v : V} {st : Option Run} (h : StV H v st) : StG H v st := by
  cases st with
  | none => exact h
  | some r => exact RunV.dress h
theorem Sq2.but {H H' : Hp} {sp a : Addr} {xs : List V} (z : Spr H sp) (s : But sp H H') (h : Sq2 H a xs) (n : ∀ d e f, xs ≠ [.int d, .int e, .int f]) : Sq2 H' a xs := by
  obtain ⟨d, e, f, hs, _⟩ := z
  rcases h with h | h
  · exact .inl (s _ _ (ne_of h hs fun q => n d e f (HO.lst.inj q)) h)
  · exact .inr (s _ _ (ne_of h hs fun q => by cases q) h)
theorem RunG.but {H H' : Hp} {sp : Addr} {v : V} {r : Run} (z : Spr H sp) (s : But sp H H') (h : RunG H v r) : RunG H' v r := by
  obtain ⟨t, e, h⟩ := h
  exact ⟨t, e, h.but z s fun _ _ _ q => by cases q⟩
theorem RunsG.but {H H' : Hp} {sp : Addr} {v : V} {rs : List Run} (z : Spr H sp) (s : But sp H H') (h : RunsG H v rs) : RunsG H' v rs := by
  obtain ⟨a, xs, e, hx, p⟩ := h
  refine ⟨a, xs, e, hx.but z s fun d _ _ q => ?_, Paired.imp (fun _ _ => RunG.but z s) p⟩
  subst q
  cases p with
  | cons h _ =>
    obtain ⟨_, e, _⟩ := h
    cases e
theorem StG.but {H H' : Hp} {sp : Addr} {v : V} {st : Option Run} (z : Spr H sp) (s : But sp H H') (h : StG H v st) : StG H' v st := by
  cases st with
  | none => exact h
  | some r => exact RunG.but z s h
end UP

set_option Elab.async false
set_option linter.all false
set_option maxRecDepth 100000
set_option maxHeartbeats 4000000
namespace UP
open PySem PySem.Spec PyProof.Rows L2
def topS (i : Nat) : Stmt := PySem.Challenge.pw_unlikepairs_k57_console_and_station.main.body.getD i (.Pass ⟨0, 0, 0, 0⟩)
structure Tx (mg : Str → Option Value) : Prop where
  n_isinstance : mg "isinstance" = none
  n_int : mg "int" = none
  n_bool : mg "bool" = none
  n_str : mg "str" = none
  n_list : mg "list" = none
  n_tuple : mg "tuple" = none
  n_len : mg "len" = none
  n_all : mg "all" = none
  n_zip : mg "zip" = none
  n_sum : mg "sum" = none
  n_min : mg "min" = none
  n_max : mg "max" = none
  n_abs : mg "abs" = none
  n_range : mg "range" = none
  n_repr : mg "repr" = none
  n_enumerate : mg "enumerate" = none
  n_any : mg "any" = none
  n_dict : mg "dict" = none
  n_sorted : mg "sorted" = none
  n_set : mg "set" = none
  n_reversed : mg "reversed" = none
  n_ord : mg "ord" = none
  c_MAX_LETTERS : ∃ t, mg "MAX_LETTERS" = some (.int 8 t)
  c_MAX_RUNS : ∃ t, mg "MAX_RUNS" = some (.int 400 t)
  c_MAX_COUNT : ∃ t, mg "MAX_COUNT" = some (.int 1000000000000000000000000000000 t)
section
variable {P : Program} {w : World} {K : PySem.W.Frag} {mg : Str → Option Value} {base : Heap}
/-! is_whole: slots 0:value -/
abbrev s_is_whole : Stmt := topS 15
theorem sc_is_whole : FnScope ["value"] ["value"] (defScope s_is_whole) := ⟨rfl, rfl, rfl, by decide +kernel, rfl, by decide +kernel, by decide +kernel⟩
def sp_is_whole : Sp := fun vs H Q _ => ∃ n : Int, vs = [.int n] ∧ Q (.bl true) H
theorem ok_is_whole (D : Df K mg "is_whole" s_is_whole) (T : Tx mg) : Has P w K mg base 1 "is_whole" ["value"] sp_is_whole := by
  refine has_of D sc_is_whole (fun _ _ _ _ _ _ us hl => match us, hl with | [_], _ => rfl) (fun vs H Q E h => ?_) (fun f cdv A outer s H vs Q E hr h => ?_)
  · obtain ⟨n, rfl, _⟩ := h
    rfl
  · obtain ⟨n, rfl, q⟩ := h
    refine ⟨_, (pss_one (ps_ret (pe_and (pe_callB call_isi (by rfl) T.n_isinstance (by decide +kernel) (pa_cons (pv 0) (pa_cons (pe_bltn (v := .ty "int") (by rfl) T.n_int (by decide +kernel) rfl) pa_nil))) (pe_one (pe_not (pe_callB call_isi (by rfl) T.n_isinstance (by decide +kernel) (pa_cons (pv 0) (pa_cons (pe_bltn (v := .ty "bool") (by rfl) T.n_bool (by decide +kernel) rfl) pa_nil)))))))), ?_⟩
    exact ⟨_, rfl, _, _, _, _, true, rfl, .ty "int", .base (.int n), kit_ty (by decide +kernel), true, rfl, iteT ⟨_, rfl, _, _, _, _, false, rfl, .ty "bool", .base (.int n), kit_ty (by decide +kernel), false, rfl, q⟩⟩
/-! is_within: slots 0:value 1:low 2:high -/
abbrev s_is_within : Stmt := topS 16
theorem sc_is_within : FnScope ["value", "low", "high"] ["value", "low", "high"] (defScope s_is_within) := ⟨rfl, rfl, rfl, by decide +kernel, rfl, by decide +kernel, by decide +kernel⟩
def sp_is_within : Sp := fun vs H Q _ => ∃ n lo hi : Int, vs = [.int n, .int lo, .int hi] ∧ Q (.bl (decide (lo ≤ n ∧ n ≤ hi))) H
theorem ok_is_within (D : Df K mg "is_within" s_is_within) (G_is_whole : Has P w K mg base 1 "is_whole" ["value"] sp_is_whole) : Has P w K mg base 2 "is_within" ["value", "low", "high"] sp_is_within := by
  refine has_of D sc_is_within (fun _ _ _ _ _ _ us hl => match us, hl with | [_, _, _], _ => rfl) (fun vs H Q E h => ?_) (fun f cdv A outer s H vs Q E hr h => ?_)
  · obtain ⟨n, lo, hi, rfl, _⟩ := h
    rfl
  · obtain ⟨n, lo, hi, rfl, q⟩ := h
    refine ⟨_, (pss_one (ps_ret (pe_and (pe_callH G_is_whole (hr.mono (by omega)) (by rfl) (pa_cons (pv 0) pa_nil)) (pe_one (pe_chain op_le op_le (pv 1) (pv 0) (pv 2)))))), ?_⟩
    refine ⟨_, rfl, n, rfl, true, rfl, iteT ⟨_, rfl, _, rfl, _, _, rfl, rfl, _, rfl, ite2 (fun e => ?_) (fun e => ?_)⟩⟩
    · have e := of_decide_eq_true e
      refine ⟨_, rfl, _, _, rfl, rfl, ?_⟩
      show Q (.bl (decide (n ≤ hi))) H
      rw [show decide (n ≤ hi) = decide (lo ≤ n ∧ n ≤ hi) by simp [e]]
      exact q
    · have e : ¬ lo ≤ n := fun z => e (decide_eq_true z)
      show Q (.bl false) H
      rw [show false = decide (lo ≤ n ∧ n ≤ hi) by simp [e]]
      exact q
theorem kit_lst {K : PySem.W.Frag} : PySem.W.kitAny K (.type "list") [.type "list", .type "tuple"] = some true := kitAny_cons (b := true) (kit_ty (by decide +kernel)) (fun z => nomatch z) (fun _ => rfl)
theorem kit_tup {K : PySem.W.Frag} : PySem.W.kitAny K (.type "tuple") [.type "list", .type "tuple"] = some true := kitAny_cons (b := false) (kit_ty (by decide +kernel)) (fun _ => kitAny_cons (b := true) (kit_ty (by decide +kernel)) (fun z => nomatch z) (fun _ => rfl)) (fun z => nomatch z)
/-! is_listed: slots 0:value 1:most -/
abbrev s_is_listed : Stmt := topS 17
theorem sc_is_listed : FnScope ["value", "most"] ["value", "most"] (defScope s_is_listed) := ⟨rfl, rfl, rfl, by decide +kernel, rfl, by decide +kernel, by decide +kernel⟩
def sp_is_listed : Sp := fun vs H Q _ => ∃ (a : Addr) (xs : List V) (m : Int), vs = [.ref a, .int m] ∧ Sq2 H a xs ∧ ∀ H', Same H H' → Q (.bl (decide ((xs.length : Int) ≤ m))) H'
theorem ok_is_listed (D : Df K mg "is_listed" s_is_listed) (T : Tx mg) : Has P w K mg base 1 "is_listed" ["value", "most"] sp_is_listed := by
  refine has_of D sc_is_listed (fun _ _ _ _ _ _ us hl => match us, hl with | [_, _], _ => rfl) (fun vs H Q E h => ?_) (fun f cdv A outer s H vs Q E hr h => ?_)
  · obtain ⟨a, xs, m, rfl, _⟩ := h
    rfl
  · obtain ⟨a, xs, m, rfl, hx, q⟩ := h
    refine ⟨_, (pss_one (ps_ret (pe_and (pe_callB call_isiT (by rfl) T.n_isinstance (by decide +kernel) (pa_cons (pv 0) (pa_cons (pe_tup (pa_cons (pe_bltn (v := .ty "list") (by rfl) T.n_list (by decide +kernel) rfl) (pa_cons (pe_bltn (v := .ty "tuple") (by rfl) T.n_tuple (by decide +kernel) rfl) pa_nil))) pa_nil))) (pe_one (pe_cmpR op_le (pe_callB call_len_seq (by rfl) T.n_len (by decide +kernel) (pa_cons (pv 0) pa_nil)) (pv 1) (nomark _)))))), ?_⟩
    refine ⟨_, rfl, (by show 2 ≤ sizeLine; decide), fun t nt => ?_⟩
    rcases hx with hx | hx
    · refine ⟨_, t, _, _, _, true, rfl, upd_same, .cons (.ty "list") (.cons (.ty "tuple") .nil), .base (.lst (same_upd nt _ _ hx)), kit_lst, true, rfl, iteT ?_⟩
      exact ⟨_, rfl, _, _, rfl, .inl (.of (same_upd nt _ _ hx)), _, rfl, _, _, rfl, rfl, q _ (same_upd nt)⟩
    · refine ⟨_, t, _, _, _, true, rfl, upd_same, .cons (.ty "list") (.cons (.ty "tuple") .nil), .base (.tup (same_upd nt _ _ hx)), kit_tup, true, rfl, iteT ?_⟩
      exact ⟨_, rfl, _, _, rfl, .inr (.of (same_upd nt _ _ hx)), _, rfl, _, _, rfl, rfl, q _ (same_upd nt)⟩
/-! is_couple: slots 0:value -/
abbrev s_is_couple : Stmt := topS 18
theorem sc_is_couple : FnScope ["value"] ["value"] (defScope s_is_couple) := ⟨rfl, rfl, rfl, by decide +kernel, rfl, by decide +kernel, by decide +kernel⟩
def sp_is_couple : Sp := fun vs H Q _ => ∃ (a : Addr) (xs : List V), vs = [.ref a] ∧ Sq2 H a xs ∧ xs.length = 2 ∧ ∀ H', Same H H' → Q (.bl true) H'
theorem ok_is_couple (D : Df K mg "is_couple" s_is_couple) (T : Tx mg) : Has P w K mg base 1 "is_couple" ["value"] sp_is_couple := by
  refine has_of D sc_is_couple (fun _ _ _ _ _ _ us hl => match us, hl with | [_], _ => rfl) (fun vs H Q E h => ?_) (fun f cdv A outer s H vs Q E hr h => ?_)
  · obtain ⟨a, xs, rfl, _⟩ := h
    rfl
  · obtain ⟨a, xs, rfl, hx, hl, q⟩ := h
    refine ⟨_, (pss_one (ps_ret (pe_and (pe_callB call_isiT (by rfl) T.n_isinstance (by decide +kernel) (pa_cons (pv 0) (pa_cons (pe_tup (pa_cons (pe_bltn (v := .ty "list") (by rfl) T.n_list (by decide +kernel) rfl) (pa_cons (pe_bltn (v := .ty "tuple") (by rfl) T.n_tuple (by decide +kernel) rfl) pa_nil))) pa_nil))) (pe_one (pe_cmpR op_eq (pe_callB call_len_seq (by rfl) T.n_len (by decide +kernel) (pa_cons (pv 0) pa_nil)) pe_int (nomark _)))))), ?_⟩
    refine ⟨_, rfl, (by show 2 ≤ sizeLine; decide), fun t nt => ?_⟩
    rcases hx with hx | hx
    · refine ⟨_, t, _, _, _, true, rfl, upd_same, .cons (.ty "list") (.cons (.ty "tuple") .nil), .base (.lst (same_upd nt _ _ hx)), kit_lst, true, rfl, iteT ⟨_, rfl, _, _, rfl, .inl (.of (same_upd nt _ _ hx)), rfl, ?_⟩⟩
      rw [hl]
      exact q _ (same_upd nt)
    · refine ⟨_, t, _, _, _, true, rfl, upd_same, .cons (.ty "list") (.cons (.ty "tuple") .nil), .base (.tup (same_upd nt _ _ hx)), kit_tup, true, rfl, iteT ⟨_, rfl, _, _, rfl, .inr (.of (same_upd nt _ _ hx)), rfl, ?_⟩⟩
      rw [hl]
      exact q _ (same_upd nt)
end
end UP

set_option Elab.async false
set_option linter.all false
set_option maxRecDepth 100000
set_option maxHeartbeats 4000000
namespace UP
open PySem PySem.Spec PyProof.Rows L2
theorem iteP {b : Bool} {A B : Prop} (h : b = true) (x : A) : if b = true then A else B := by
  rw [if_pos h]
  exact x
theorem iteN {b : Bool} {A B : Prop} (h : b = false) (x : B) : if b = true then A else B := by
  rw [if_neg (by rw [h]; decide)]
  exact x
theorem yesT {σ : L2.St} {H : Hp} {A B : Hp → Prop} (h : A H) : tYes σ H (fun b H3 => if b = true then A H3 else B H3) := by
  show (if true = true then A H else B H)
  exact iteT h
theorem lc_gen {J : It} {n : Nat} {g : TG} {tt : TT} {te : TE} {vs : List Nat} {σ : L2.St} {H1 : Hp} {D : Addr} {Qd : Hp → Prop} (Pv : Nat → Hp → Prop) (h0 : Pv 0 (upd H1 D (.lst [])))
    (hg : ∀ i H, i < n → Pv i H → J.go i H) (hst : ∀ H, Pv n H → J.stop n H)
    (hs : ∀ i x H H', i < n → Pv i H → J.yld i H x H' → g x (wipe σ vs) H' fun σ2 H2 => wipe σ2 vs = wipe σ vs ∧ tt σ2 H2 fun b H3 =>
      if b = true then te σ2 H3 fun y H4 => ∃ acc, H4 D = some (.lst acc) ∧ acc.length < sizeLine ∧ Pv (i + 1) (upd H4 D (.lst (acc ++ [y]))) else Pv (i + 1) H3) (hd : ∀ H, Pv n H → Qd H) :
    ∃ W : Nat → Nat → Hp → Prop, (∃ m, W 0 m (upd H1 D (.lst []))) ∧ ∀ i m H, W i m H →
      (J.stop i H ∧ Qd H) ∨ (J.go i H ∧ ∃ Nx : Hp → Prop, (∀ H', Nx H' → ∃ m', m' < m ∧ W (i + 1) m' H') ∧ ∀ x H', J.yld i H x H' → g x (wipe σ vs) H' fun σ2 H2 => wipe σ2 vs = wipe σ vs ∧ tt σ2 H2 fun b H3 =>
        if b = true then te σ2 H3 fun y H4 => ∃ acc, H4 D = some (.lst acc) ∧ acc.length < sizeLine ∧ Nx (upd H4 D (.lst (acc ++ [y]))) else Nx H3) := by
  refine ⟨fun i m H => m = n - i ∧ i ≤ n ∧ Pv i H, ⟨n, by simp, Nat.zero_le _, h0⟩, ?_⟩
  rintro i m H ⟨rfl, hi, p⟩
  by_cases hlt : i < n
  · exact .inr ⟨hg i H hlt p, Pv (i + 1), fun H' p' => ⟨n - (i + 1), by omega, rfl, hlt, p'⟩, fun x H' y => hs i x H H' hlt p y⟩
  · have e : i = n := by omega
    subst e
    exact .inl ⟨hst H p, hd H p⟩
section
variable {X : Cx} {K : PySem.W.Frag}
theorem ix_tupK (h : X.K = K) : IxR X (rIxT K) := h ▸ ix_tup
theorem ix_listK (h : X.K = K) : IxR X (rIxL K) := h ▸ ix_list
theorem pg_tupK {es : List Expr} {k : Nat} {t : TGs} {n : Nat} {pos : Pos} (h : X.K = K) (hc : X.calm = true) (hp : PGs X es t)
    (hn : (assignEach es X.env).length = n := by rfl) (hst : (assignEach es X.env).findIdx? (fun z => z.1) = none := by rfl) : PG X (.Tuple es k pos) (gTup K n t) := by
  subst h
  exact pg_tup hc hp hn hst
theorem call_len_seqK (h : X.K = K) : CallR X (.builtin "len") (fun xs H Q => ∃ p ys, xs = [.ref p] ∧ (SqL K H p ys ∨ SqT K H p ys) ∧ Q (.int ys.length) H) := by
  subst h
  exact call_len_seq
end
theorem ix_seqK {X : Cx} {K : PySem.W.Frag} (h : X.K = K) : IxR X (rIx K) := h ▸ ix_seq
/-! ### lists that grow -/
theorem same_grow {H H4 : Hp} {D : Addr} {o : HO} (n : H D = none) (s : Same H H4) : Same H (upd H4 D o) := fun b x e => by
  rw [upd_ne (ne_of_none e n)]
  exact s b x e
theorem RunV.grow {H : Hp} {D : Addr} {acc acc' : List V} {v : V} {r : Run} (hD : H D = some (.lst acc)) (h : RunV H v r) : RunV (upd H D (.lst acc')) v r := by
  obtain ⟨t, e, h⟩ := h
  refine ⟨t, e, ?_⟩
  rw [upd_ne (ne_of h hD (by intro q; cases q))]
  exact h
theorem prs_grow {H : Hp} {D : Addr} {acc acc' : List V} {xs : List V} {rs : List Run} (hD : H D = some (.lst acc)) (h : Paired (RunV H) xs rs) : Paired (RunV (upd H D (.lst acc'))) xs rs := Paired.imp (fun _ _ => RunV.grow hD) h
theorem prs_same {H H' : Hp} {xs : List V} {rs : List Run} (s : Same H H') (h : Paired (RunV H) xs rs) : Paired (RunV H') xs rs := Paired.imp (fun _ _ => RunV.same s) h
theorem take_snoc {α : Type} {l : List α} {i : Nat} {x : α} (h : l[i]? = some x) : l.take (i + 1) = l.take i ++ [x] := by
  rw [List.take_add_one, h]
  rfl
theorem lc_wk {J : It} {H0 H1 : Hp} {xs : List V} {g : TG} {tt : TT} {te : TE} {vs : List Nat} {σ : L2.St} {D : Addr} {Qd : Hp → Prop} (wk : Wk J H0 xs) (Pv : Nat → Hp → Prop) (hsm : ∀ i H, Pv i H → Same H0 H) (h0 : Pv 0 (upd H1 D (.lst [])))
    (hs : ∀ i x H, xs[i]? = some x → Pv i H → g x (wipe σ vs) H fun σ2 H2 => wipe σ2 vs = wipe σ vs ∧ tt σ2 H2 fun b H3 =>
      if b = true then te σ2 H3 fun y H4 => ∃ acc, H4 D = some (.lst acc) ∧ acc.length < sizeLine ∧ Pv (i + 1) (upd H4 D (.lst (acc ++ [y]))) else Pv (i + 1) H3) (hd : ∀ H, Pv xs.length H → Qd H) :
    ∃ W : Nat → Nat → Hp → Prop, (∃ m, W 0 m (upd H1 D (.lst []))) ∧ ∀ i m H, W i m H →
      (J.stop i H ∧ Qd H) ∨ (J.go i H ∧ ∃ Nx : Hp → Prop, (∀ H', Nx H' → ∃ m', m' < m ∧ W (i + 1) m' H') ∧ ∀ x H', J.yld i H x H' → g x (wipe σ vs) H' fun σ2 H2 => wipe σ2 vs = wipe σ vs ∧ tt σ2 H2 fun b H3 =>
        if b = true then te σ2 H3 fun y H4 => ∃ acc, H4 D = some (.lst acc) ∧ acc.length < sizeLine ∧ Nx (upd H4 D (.lst (acc ++ [y]))) else Nx H3) := by
  refine lc_gen Pv h0 (fun i H hi p => wk.go i H (hsm i H p) hi) (fun H p => wk.stop H (hsm _ H p)) (fun i x H H' hi p y => ?_) hd
  obtain ⟨e, ex⟩ := wk.yld i x H H' (hsm i H p) y
  subst e
  exact hs i x _ ex p
theorem for_wk {J : It} {H0 H : Hp} {xs : List V} {g : TG} {tb : TS} {D : Ends} {σ : L2.St} (wk : Wk J H0 xs) (Pv : Nat → L2.St → Hp → Prop) (hsm : ∀ i σ H, Pv i σ H → Same H0 H) (h0 : Pv 0 σ H)
    (hs : ∀ i x σ H, xs[i]? = some x → Pv i σ H → g x σ H fun σ2 H2 => tb { D with nx := Pv (i + 1), ct := Pv (i + 1), bk := D.nx } σ2 H2) (hd : ∀ σ H, Pv xs.length σ H → D.nx σ H) :
    ∃ W : Nat → Nat → L2.St → Hp → Prop, (∃ m, W 0 m σ H) ∧ ∀ i m σ H, W i m σ H →
      (J.stop i H ∧ D.nx σ H) ∨ (J.go i H ∧ ∃ N : L2.St → Hp → Prop, (∀ σ' H', N σ' H' → ∃ m', m' < m ∧ W (i + 1) m' σ' H') ∧ ∀ x H', J.yld i H x H' → g x σ H' fun σ2 H2 => tb { D with nx := N, ct := N, bk := D.nx } σ2 H2) := by
  refine ⟨fun i m σ H => m = xs.length - i ∧ i ≤ xs.length ∧ Pv i σ H, ⟨xs.length, by omega, Nat.zero_le _, h0⟩, ?_⟩
  rintro i m σ H ⟨rfl, hi, p⟩
  by_cases hlt : i < xs.length
  · refine Or.inr ⟨wk.go i H (hsm i σ H p) hlt, Pv (i + 1), fun σ' H' p' => ⟨xs.length - (i + 1), by omega, rfl, hlt, p'⟩, fun x H' y => ?_⟩
    obtain ⟨e, ex⟩ := wk.yld i x H H' (hsm i σ H p) y
    subst e
    exact hs i x σ _ ex p
  · have e : i = xs.length := by omega
    subst e
    exact Or.inl ⟨wk.stop H (hsm _ σ H p), hd σ H p⟩
section
variable {P : Program} {w : World} {K : PySem.W.Frag} {mg : Str → Option Value} {base : Heap}
theorem lex1 {c d : Nat} : (!decide (([c] : List Nat) < [d])) = decide (d ≤ c) := by
  have e : (([c] : List Nat) < [d]) ↔ c < d := by
    rw [List.cons_lt_cons_iff]
    simp
  by_cases h : c < d
  · rw [decide_eq_true (e.mpr h), decide_eq_false (by omega)]
    rfl
  · rw [decide_eq_false (fun z => h (e.mp z)), decide_eq_true (by omega)]
    rfl
/-! is_kind: slots 0:value 1:letter -/
abbrev s_is_kind : Stmt := topS 19
theorem sc_is_kind : FnScope ["value", "letter"] ["value"] (defScope s_is_kind) := ⟨rfl, rfl, rfl, by decide +kernel, rfl, by decide +kernel, by decide +kernel⟩
def sp_is_kind : Sp := fun vs H Q _ => ∃ z : Str, vs = [.str z] ∧ KindOk z ∧ ∀ H', Same H H' → Q (.bl true) H'
theorem ok_is_kind (D : Df K mg "is_kind" s_is_kind) (T : Tx mg) : Has P w K mg base 1 "is_kind" ["value"] sp_is_kind := by
  refine has_of D sc_is_kind (fun _ _ _ _ _ _ us hl => match us, hl with | [_], _ => rfl) (fun vs H Q E h => ?_) (fun f cdv A outer s H vs Q E hr h => ?_)
  · obtain ⟨n, rfl, _⟩ := h
    rfl
  · obtain ⟨z, rfl, ⟨k1, k2, k3⟩, q⟩ := h
    refine ⟨_, (pss_cons (ps_if (PW.pt (pw_or (pt_not (pt_val (pe_callB call_isi (by rfl) T.n_isinstance (by decide +kernel) (pa_cons (pv 0) (pa_cons (pe_bltn (v := .ty "str") (by rfl) T.n_str (by decide +kernel) rfl) pa_nil))))) (pw_or1 (pt_not (pt_chain op_le op_le pe_int (pe_callB call_len_str (by rfl) T.n_len (by decide +kernel) (pa_cons (pv 0) pa_nil)) (pe_glI T.c_MAX_LETTERS (by rfl))))))) (pss_one (ps_ret pe_bl)) pss_nil)
    (pss_one (ps_ret (pe_callB (cr_all rfl) (by rfl) T.n_all (by decide +kernel) (pa_cons (pe_lc (own := [("letter", 1)]) rfl sc_is_kind.nd (pi_str (pv 0)) (blkOk_by (N := ["value", "letter"]) (sc := defScope s_is_kind) (by decide +kernel)) (fun _ _ _ _ _ => (pg_name (i := 1) sc_is_kind.nd rfl (by first | exact Or.inl rfl | exact Or.inr rfl))) (fun _ _ _ _ _ => pts_nil) (fun _ _ _ _ _ => (pe_chain op_le_str op_le_str pe_str (pv 1) pe_str))) pa_nil))))), ?_⟩
    refine ⟨_, rfl, _, _, _, _, true, rfl, .ty "str", .base (.str z), kit_ty (by decide +kernel), true, rfl, iteF ?_⟩
    refine ⟨_, rfl, z, rfl, smallE (by omega), _, _, rfl, rfl, _, rfl, iteP (decide_eq_true (by omega)) ⟨_, _, rfl, rfl, _, rfl, iteN ?_ ?_⟩⟩
    · show (!decide ((z.length : Int) ≤ 8)) = false
      rw [decide_eq_true (by omega)]
      rfl
    refine ⟨_, rfl, z, rfl, fun L nL => lc_gen (n := z.cps.size) (fun i H' => Same H H' ∧ H' L = some (.lst ((List.replicate i true).map V.bl))) ⟨same_upd nL, upd_same⟩ (fun i H' hi _ => hi) (fun H' _ => Nat.le_refl _) (fun i x H1 H2 hi p y => ?_) (fun H' p => ?_)⟩
    · obtain ⟨rfl, c, ec, rfl⟩ := y
      obtain ⟨sm, hL⟩ := p
      have hc : 97 ≤ c ∧ c ≤ 122 := k3 c (by
        have := Array.mem_of_getElem? ec
        simpa using this)
      have ea : ("a" : Str).cps.toList = [97] := by decide +kernel
      have ez : ("z" : Str).cps.toList = [122] := by decide +kernel
      refine ⟨rfl, yesT ⟨_, rfl, _, _, rfl, rfl, _, rfl, iteP ?_ ⟨_, _, rfl, rfl, _, hL, ?_, ?_, ?_⟩⟩⟩
      · show (!decide (([c] : List Nat) < ("a" : Str).cps.toList)) = true
        rw [ea, lex1]
        exact decide_eq_true hc.1
      · simp only [List.length_map, List.length_replicate]
        exact small (by have : z.cps.size = z.length := rfl; omega)
      · intro b o e
        have nb : b ≠ L := ne_of_none e nL
        rw [upd_ne nb]
        exact sm b o e
      · rw [upd_same]
        have e1 : (!decide ((("z" : Str).cps.toList) < ([c] : List Nat))) = true := by
          rw [ez, lex1]
          exact decide_eq_true hc.2
        show some (HO.lst ((List.replicate i true).map V.bl ++ [V.bl (!decide ((("z" : Str).cps.toList) < ([c] : List Nat)))])) = _
        rw [e1, List.replicate_succ', List.map_append]
        rfl
    · refine ⟨L, _, rfl, .of p.2, ?_⟩
      have e : ((List.replicate z.cps.size true).all id) = true := by simp
      rw [e]
      exact q H' p.1
def StOk (st : Option Run) : Prop := ∀ r, st = some r → KindOk r.1 ∧ 1 ≤ r.2
theorem at0 {α : Type} {x y : α} : atI [x, y] 0 = some x := rfl
theorem at1 {α : Type} {x y : α} : atI [x, y] 1 = some y := rfl
theorem ix0 {K : PySem.W.Frag} {H : Hp} {t : Addr} {x y : V} {Q : VK} (h : Sq2 H t [x, y]) (q : Q x H) : rIx K (.ref t) (.int 0) H Q := h.elim (fun z => .inl ⟨t, _, 0, _, rfl, rfl, .of z, at0, q⟩) (fun z => .inr (.inl ⟨t, _, 0, _, rfl, rfl, .of z, at0, q⟩))
theorem ix1 {K : PySem.W.Frag} {H : Hp} {t : Addr} {x y : V} {Q : VK} (h : Sq2 H t [x, y]) (q : Q y H) : rIx K (.ref t) (.int 1) H Q := h.elim (fun z => .inl ⟨t, _, 1, _, rfl, rfl, .of z, at1, q⟩) (fun z => .inr (.inl ⟨t, _, 1, _, rfl, rfl, .of z, at1, q⟩))
theorem all_rep (n : Nat) : ((List.replicate n true).all id) = true := by simp
/-! is_run: slots 0:value -/
abbrev s_is_run : Stmt := topS 20
theorem sc_is_run : FnScope ["value"] ["value"] (defScope s_is_run) := ⟨rfl, rfl, rfl, by decide +kernel, rfl, by decide +kernel, by decide +kernel⟩
def sp_is_run : Sp := fun vs H Q _ => ∃ (v : V) (r : Run), vs = [v] ∧ RunG H v r ∧ RunOk r ∧ ∀ H', Same H H' → Q (.bl true) H'
theorem ok_is_run (D : Df K mg "is_run" s_is_run) (T : Tx mg) (G_is_couple : Has P w K mg base 1 "is_couple" ["value"] sp_is_couple) (G_is_kind : Has P w K mg base 1 "is_kind" ["value"] sp_is_kind) (G_is_within : Has P w K mg base 2 "is_within" ["value", "low", "high"] sp_is_within) :
    Has P w K mg base 3 "is_run" ["value"] sp_is_run := by
  refine has_of D sc_is_run (fun _ _ _ _ _ _ us hl => match us, hl with | [_], _ => rfl) (fun vs H Q E h => ?_) (fun f cdv A outer s H vs Q E hr h => ?_)
  · obtain ⟨v, r, rfl, _⟩ := h
    rfl
  · obtain ⟨v, r, rfl, ⟨t, rfl, ht⟩, ⟨k, c1, c2⟩, q⟩ := h
    refine ⟨_, (pss_one (ps_ret (pe_and (pe_callH G_is_couple (hr.mono (by omega)) (by rfl) (pa_cons (pv 0) pa_nil)) (pe_and (pe_callH G_is_kind (hr.mono (by omega)) (by rfl) (pa_cons (pe_ix ix_seq (pv 0) pe_int (fun _ _ => rfl)) pa_nil)) (pe_one (pe_callH G_is_within (hr.mono (by omega)) (by rfl) (pa_cons (pe_ix ix_seq (pv 0) pe_int (fun _ _ => rfl)) (pa_cons pe_int (pa_cons (pe_glI T.c_MAX_COUNT (by rfl)) pa_nil))))))))), ?_⟩
    refine ⟨_, rfl, t, _, rfl, ht, rfl, fun H1 s1 => ⟨true, rfl, iteT ?_⟩⟩
    refine ⟨_, rfl, ix0 (ht.same s1) ⟨r.1, rfl, k, fun H2 s2 => ⟨true, rfl, iteT ?_⟩⟩⟩
    refine ⟨_, rfl, ix1 ((ht.same s1).same s2) ⟨r.2, 1, _, rfl, ?_⟩⟩
    rw [decide_eq_true ⟨c1, c2⟩]
    exact q _ (s1.trans s2)
/-! is_state: slots 0:value -/
abbrev s_is_state : Stmt := topS 22
theorem sc_is_state : FnScope ["value"] ["value"] (defScope s_is_state) := ⟨rfl, rfl, rfl, by decide +kernel, rfl, by decide +kernel, by decide +kernel⟩
def sp_is_state : Sp := fun vs H Q _ => ∃ (v : V) (st : Option Run), vs = [v] ∧ StG H v st ∧ StOk st ∧ ∀ H', Same H H' → Q (.bl true) H'
theorem ok_is_state (D : Df K mg "is_state" s_is_state) (T : Tx mg) (G_is_couple : Has P w K mg base 1 "is_couple" ["value"] sp_is_couple) (G_is_kind : Has P w K mg base 1 "is_kind" ["value"] sp_is_kind) (G_is_whole : Has P w K mg base 1 "is_whole" ["value"] sp_is_whole) :
    Has P w K mg base 2 "is_state" ["value"] sp_is_state := by
  refine has_of D sc_is_state (fun _ _ _ _ _ _ us hl => match us, hl with | [_], _ => rfl) (fun vs H Q E h => ?_) (fun f cdv A outer s H vs Q E hr h => ?_)
  · obtain ⟨v, r, rfl, _⟩ := h
    rfl
  · obtain ⟨v, st, rfl, hv, ok, q⟩ := h
    refine ⟨_, (pss_cons (ps_if (pt_cmpR op_isN (pv 0) pe_non (nomark _)) (pss_one (ps_ret pe_bl)) pss_nil)
    (pss_one (ps_ret (pe_and (pe_callH G_is_couple (hr.mono (by omega)) (by rfl) (pa_cons (pv 0) pa_nil)) (pe_and (pe_callH G_is_kind (hr.mono (by omega)) (by rfl) (pa_cons (pe_ix ix_seq (pv 0) pe_int (fun _ _ => rfl)) pa_nil)) (pe_and (pe_callH G_is_whole (hr.mono (by omega)) (by rfl) (pa_cons (pe_ix ix_seq (pv 0) pe_int (fun _ _ => rfl)) pa_nil)) (pe_one (pe_cmpR op_ge (pe_ix ix_seq (pv 0) pe_int (fun _ _ => rfl)) pe_int (nomark _))))))))), ?_⟩
    cases st with
    | none =>
      cases hv
      exact ⟨_, rfl, rfl, _, rfl, iteP rfl (q H (Same.refl H))⟩
    | some r =>
      obtain ⟨t, rfl, ht⟩ := hv
      obtain ⟨k, c1⟩ := ok r rfl
      refine ⟨_, rfl, rfl, _, rfl, iteN rfl ?_⟩
      refine ⟨_, rfl, t, _, rfl, ht, rfl, fun H1 s1 => ⟨true, rfl, iteT ?_⟩⟩
      refine ⟨_, rfl, ix0 (ht.same s1) ⟨r.1, rfl, k, fun H2 s2 => ⟨true, rfl, iteT ?_⟩⟩⟩
      refine ⟨_, rfl, ix1 ((ht.same s1).same s2) ⟨r.2, rfl, true, rfl, iteT ?_⟩⟩
      refine ⟨_, rfl, ix1 ((ht.same s1).same s2) ⟨_, _, rfl, rfl, ?_⟩⟩
      show Q (.bl (decide (1 ≤ r.2))) H2
      rw [decide_eq_true c1]
      exact q _ (s1.trans s2)
/-! is_sequence: slots 0:value 1:run 2:following -/
abbrev s_is_sequence : Stmt := topS 21
theorem sc_is_sequence : FnScope ["value", "run", "following"] ["value"] (defScope s_is_sequence) := ⟨rfl, rfl, rfl, by decide +kernel, rfl, by decide +kernel, by decide +kernel⟩
def sp_is_sequence : Sp := fun vs H Q _ => ∃ (v : V) (rs : List Run), vs = [v] ∧ RunsG H v rs ∧ SeqOk rs ∧ ∀ H', Same H H' → Q (.bl true) H'
theorem ok_is_sequence (D : Df K mg "is_sequence" s_is_sequence) (T : Tx mg) (G_is_listed : Has P w K mg base 1 "is_listed" ["value", "most"] sp_is_listed) (G_is_run : Has P w K mg base 3 "is_run" ["value"] sp_is_run) :
    Has P w K mg base 4 "is_sequence" ["value"] sp_is_sequence := by
  refine has_of D sc_is_sequence (fun _ _ _ _ _ _ us hl => match us, hl with | [_], _ => rfl) (fun vs H Q E h => ?_) (fun f cdv A outer s H vs Q E hr h => ?_)
  · obtain ⟨v, r, rfl, _⟩ := h
    rfl
  · obtain ⟨v, rs, rfl, ⟨a, xs, rfl, hx, hp⟩, ⟨l4, rok, alt⟩, q⟩ := h
    have lx : xs.length = rs.length := Paired.len hp
    refine ⟨_, (pss_cons (ps_if (PW.pt (pw_or (pt_not (pt_val (pe_callH G_is_listed (hr.mono (by omega)) (by rfl) (pa_cons (pv 0) (pa_cons (pe_glI T.c_MAX_RUNS (by rfl)) pa_nil))))) (pw_or1 (pt_not (pt_val (pe_callB (cr_all rfl) (by rfl) T.n_all (by decide +kernel) (pa_cons (pe_lc (own := [("run", 1)]) rfl sc_is_sequence.nd (pi_seqV 0) (blkOk_by (N := ["value", "run", "following"]) (sc := defScope s_is_sequence) (by decide +kernel)) (fun _ _ _ _ _ => (pg_name (i := 1) sc_is_sequence.nd rfl (by first | exact Or.inl rfl | exact Or.inr rfl))) (fun _ _ _ _ _ => pts_nil) (fun _ _ _ _ _ => (pe_callH G_is_run (hr.mono (by omega)) (by rfl) (pa_cons (pv 1) pa_nil)))) pa_nil))))))) (pss_one (ps_ret pe_bl)) pss_nil)
    (pss_one (ps_ret (pe_callB (cr_all rfl) (by rfl) T.n_all (by decide +kernel) (pa_cons (pe_lc (own := [("run", 1), ("following", 2)]) rfl sc_is_sequence.nd (pi_zip1 (i := 0) (RZ.pi_zipA (by rfl) T.n_zip (pa_cons (pv 0) (pa_cons (pe_slice (SlR.or sl_list sl_tupA) (pv 0) (po_some pe_int) po_none) pa_nil))) (fun _ _ _ q => ⟨1, rfl, q⟩) (fun _ _ _ q => q)) (blkOk_by (N := ["value", "run", "following"]) (sc := defScope s_is_sequence) (by decide +kernel)) (fun _ _ _ _ _ => (pg_tupK (K := K) (n := 2) rfl rfl (pgs_cons (pg_name (i := 1) sc_is_sequence.nd rfl (by first | exact Or.inl rfl | exact Or.inr rfl)) (pgs_cons (pg_name (i := 2) sc_is_sequence.nd rfl (by first | exact Or.inl rfl | exact Or.inr rfl)) pgs_nil)))) (fun _ _ _ _ _ => pts_nil) (fun _ _ _ _ _ => (pe_cmpR op_ne (pe_ix (ix_seqK (K := K) rfl) (pv 1) pe_int (fun _ _ => rfl)) (pe_ix (ix_seqK (K := K) rfl) (pv 2) pe_int (fun _ _ => rfl)) (nomark _)))) pa_nil))))), ?_⟩
    refine ⟨_, rfl, a, xs, 400, rfl, hx, fun H1 s1 => ⟨_, rfl, iteN ?_ ?_⟩⟩
    · show (!decide ((xs.length : Int) ≤ 400)) = false
      rw [decide_eq_true (by omega)]
      rfl
    refine ⟨a, xs, rfl, hx.same s1, fun J wk L nL => lc_wk wk (fun i H' => Same H1 H' ∧ H' L = some (.lst ((List.replicate i true).map V.bl))) (fun _ _ p => p.1) ⟨same_upd nL, upd_same⟩ (fun i x H2 ex p => ?_) (fun H2 p => ?_)⟩
    · obtain ⟨sm, hL⟩ := p
      obtain ⟨r, er, hr1⟩ := Paired.at hp ex
      have hi : i < xs.length := (List.getElem?_eq_some_iff.mp ex).1
      refine ⟨rfl, yesT ⟨_, rfl, x, r, rfl, RunG.same (s1.trans sm) hr1, rok r (List.mem_of_getElem? er), fun H3 s3 => ⟨_, s3 _ _ hL, ?_, same_grow nL (sm.trans s3), ?_⟩⟩⟩
      · simp only [List.length_map, List.length_replicate]
        exact small (by omega)
      · rw [upd_same, List.replicate_succ', List.map_append]
        rfl
    · refine ⟨L, _, rfl, .of p.2, _, rfl, iteN ?_ ?_⟩
      · rw [all_rep]
        rfl
      have s2 : Same H H2 := s1.trans p.1
      refine ⟨a, xs, rfl, hx.same s2, fun J Hc sc wk M nM => ?_⟩
      have sA : Same H Hc := s2.trans sc
      refine lc_gen (n := xs.length - 1) (fun i H' => Same Hc H' ∧ H' M = some (.lst ((List.replicate i true).map V.bl))) ⟨same_upd nM, upd_same⟩ (fun i H' hi p => wk.go i H' p.1 (by omega)) (fun H' p => wk.stop H' p.1) (fun i x H3 H4 hi p y => ?_) (fun H' p => ?_)
      · obtain ⟨T', x1, x2, rfl, nT, rfl, g1, g2⟩ := wk.yld i x H3 H4 p.1 y
        obtain ⟨sm, hM⟩ := p
        have g2 := g2 (by omega)
        have sB : Same H H3 := sA.trans sm
        obtain ⟨r1, e1, v1⟩ := Paired.at hp g1
        obtain ⟨r2, e2, v2⟩ := Paired.at hp g2
        obtain ⟨t1, rfl, w1⟩ := RunG.same (sB.trans (same_upd (o := .tup [x1, x2]) nT)) v1
        obtain ⟨t2, rfl, w2⟩ := RunG.same (sB.trans (same_upd (o := .tup [_, x2]) nT)) v2
        refine ⟨T', _, rfl, .of upd_same, rfl, _, _, rfl, _, _, rfl, rfl, rfl, yesT ?_⟩
        refine ⟨_, rfl, ix0 w1 ⟨_, rfl, ix0 w2 ⟨rfl, _, same_upd nT _ _ hM, ?_, same_grow nM (sm.trans (same_upd nT)), ?_⟩⟩⟩
        · simp only [List.length_map, List.length_replicate]
          exact small (by omega)
        · rw [upd_same, List.replicate_succ', List.map_append]
          have ne : (!decide (V.str r1.1 = V.str r2.1)) = true := by
            rw [decide_eq_false (fun z => alt i r1 r2 e1 e2 (V.str.inj z))]
            rfl
          rw [ne]
          rfl
      · refine ⟨M, _, rfl, .of p.2, ?_⟩
        rw [all_rep]
        exact q _ (sA.trans p.1)
/-! checked_runs: slots 0:sequence 1:kind 2:count -/
abbrev s_checked_runs : Stmt := topS 23
theorem sc_checked_runs : FnScope ["sequence", "kind", "count"] ["sequence"] (defScope s_checked_runs) := ⟨rfl, rfl, rfl, by decide +kernel, rfl, by decide +kernel, by decide +kernel⟩
def sp_checked_runs : Sp := fun vs H Q _ => ∃ (v : V) (rs : List Run), vs = [v] ∧ RunsG H v rs ∧ SeqOk rs ∧ ∀ H' p, Same H H' → H p = none → Runs H' p rs → Q (.ref p) H'
theorem ok_checked_runs (D : Df K mg "checked_runs" s_checked_runs) (T : Tx mg) (G_is_sequence : Has P w K mg base 4 "is_sequence" ["value"] sp_is_sequence) :
    Has P w K mg base 5 "checked_runs" ["sequence"] sp_checked_runs := by
  refine has_of D sc_checked_runs (fun _ _ _ _ _ _ us hl => match us, hl with | [_], _ => rfl) (fun vs H Q E h => ?_) (fun f cdv A outer s H vs Q E hr h => ?_)
  · obtain ⟨v, r, rfl, _⟩ := h
    rfl
  · obtain ⟨v, rs, rfl, hR, ok, q⟩ := h
    refine ⟨_, (pss_cons (ps_if (pt_not (pt_val (pe_callH G_is_sequence (hr.mono (by omega)) (by rfl) (pa_cons (pv 0) pa_nil)))) (pss_one ps_never) pss_nil)
    (pss_one (ps_ret (pe_lc (own := [("kind", 1), ("count", 2)]) rfl sc_checked_runs.nd (pi_seqV 0) (blkOk_by (N := ["sequence", "kind", "count"]) (sc := defScope s_checked_runs) (by decide +kernel)) (fun _ _ _ _ _ => (pg_any (n := 2) rfl (pgs_cons (pg_name (i := 1) sc_checked_runs.nd rfl (by first | exact Or.inl rfl | exact Or.inr rfl)) (pgs_cons (pg_name (i := 2) sc_checked_runs.nd rfl (by first | exact Or.inl rfl | exact Or.inr rfl)) pgs_nil)))) (fun _ _ _ _ _ => pts_nil) (fun _ _ _ _ _ => (pe_tup (pa_cons (pv 1) (pa_cons (pv 2) pa_nil)))))))), ?_⟩
    refine ⟨_, rfl, v, rs, rfl, hR, ok, fun H1 s1 => ⟨true, rfl, iteF ?_⟩⟩
    obtain ⟨a, xs, rfl, hx, hp⟩ := hR
    have lx : xs.length = rs.length := Paired.len hp
    refine ⟨a, xs, rfl, hx.same s1, fun J wk L nL => lc_wk wk (fun i H' => Same H1 H' ∧ ∃ ys, H' L = some (.lst ys) ∧ Paired (RunV H') ys (rs.take i)) (fun _ _ p => p.1) ⟨same_upd nL, [], upd_same, .nil⟩ (fun i x H2 ex p => ?_) (fun H2 p => ?_)⟩
    · obtain ⟨sm, ys, hL, hy⟩ := p
      obtain ⟨r, er, hr1⟩ := Paired.at hp ex
      have hi : i < xs.length := (List.getElem?_eq_some_iff.mp ex).1
      obtain ⟨t, rfl, ht⟩ := RunG.same (s1.trans sm) hr1
      refine ⟨t, _, rfl, ht, rfl, _, _, rfl, _, _, rfl, rfl, rfl, yesT ⟨_, rfl, _, rfl, (by show 2 ≤ sizeLine; decide), fun n nn => ⟨_, same_upd nn _ _ hL, ?_, same_grow nL (sm.trans (same_upd nn)), _, upd_same, ?_⟩⟩⟩
      · have := Paired.len hy
        rw [List.length_take] at this
        exact small (by have := ok.1; omega)
      · rw [take_snoc er]
        refine Paired.app (prs_grow (same_upd nn _ _ hL) (prs_same (same_upd nn) hy)) (.cons ?_ .nil)
        exact RunV.grow (same_upd nn _ _ hL) ⟨n, rfl, upd_same⟩
    · obtain ⟨sm, ys, hL, hy⟩ := p
      rw [lx, List.take_length] at hy
      exact q H2 L (s1.trans sm) (s1.free nL) ⟨ys, hL, hy⟩
/-! checked_state: slots 0:state -/
abbrev s_checked_state : Stmt := topS 25
theorem sc_checked_state : FnScope ["state"] ["state"] (defScope s_checked_state) := ⟨rfl, rfl, rfl, by decide +kernel, rfl, by decide +kernel, by decide +kernel⟩
def sp_checked_state : Sp := fun vs H Q _ => ∃ (v : V) (st : Option Run), vs = [v] ∧ StG H v st ∧ StOk st ∧ ∀ H' v', Same H H' → StV H' v' st → Q v' H'
theorem ok_checked_state (D : Df K mg "checked_state" s_checked_state) (T : Tx mg) (G_is_state : Has P w K mg base 2 "is_state" ["value"] sp_is_state) :
    Has P w K mg base 3 "checked_state" ["state"] sp_checked_state := by
  refine has_of D sc_checked_state (fun _ _ _ _ _ _ us hl => match us, hl with | [_], _ => rfl) (fun vs H Q E h => ?_) (fun f cdv A outer s H vs Q E hr h => ?_)
  · obtain ⟨v, r, rfl, _⟩ := h
    rfl
  · obtain ⟨v, st, rfl, hv, ok, q⟩ := h
    refine ⟨_, (pss_cons (ps_if (pt_not (pt_val (pe_callH G_is_state (hr.mono (by omega)) (by rfl) (pa_cons (pv 0) pa_nil)))) (pss_one ps_never) pss_nil)
    (pss_one (ps_ret (pe_ifExp (pt_cmpR op_isN (pv 0) pe_non (nomark _)) pe_non (pe_callTy call_tuple_of (by rfl) T.n_tuple (by decide +kernel) (pa_cons (pv 0) pa_nil)))))), ?_⟩
    refine ⟨_, rfl, v, st, rfl, hv, ok, fun H1 s1 => ⟨true, rfl, iteF ?_⟩⟩
    cases st with
    | none =>
      cases hv
      exact ⟨_, rfl, rfl, _, rfl, iteP rfl (q H1 _ s1 rfl)⟩
    | some r =>
      obtain ⟨t, rfl, ht⟩ := hv
      refine ⟨_, rfl, rfl, _, rfl, iteN rfl ⟨_, rfl, t, [.str r.1, .int r.2], rfl, ?_⟩⟩
      rcases ht.same s1 with z | z
      · exact .inl ⟨.of z, fun l nl => q _ _ (s1.trans (same_upd nl)) ⟨l, rfl, upd_same⟩⟩
      · exact .inr ⟨.of z, q H1 _ s1 ⟨t, rfl, z⟩⟩
end
end UP

set_option Elab.async false
set_option linter.all false
set_option maxRecDepth 100000
set_option maxHeartbeats 4000000
namespace UP
open PySem PySem.Spec PyProof.Rows L2
section
variable {P : Program} {w : World} {K : PySem.W.Frag} {mg : Str → Option Value} {base : Heap}
def lenR (rs : List Run) : Int := (rs.map (·.2)).sum
end
end UP

set_option Elab.async false
set_option linter.all false
set_option maxRecDepth 100000
set_option maxHeartbeats 4000000
namespace UP
open PySem PySem.Spec PyProof.Rows L2
/-! ### the mirror of cut -/
theorem lenR_nil : lenR [] = 0 := rfl
theorem lenR_cons (r : Run) (l : List Run) : lenR (r :: l) = r.2 + lenR l := by
  unfold lenR
  rw [List.map_cons, List.sum_cons]
theorem lenR_app (l m : List Run) : lenR (l ++ m) = lenR l + lenR m := by
  induction l with
  | nil => rw [List.nil_append, lenR_nil]; omega
  | cons r t ih => rw [List.cons_append, lenR_cons, lenR_cons, ih]; omega
theorem lenR_snoc (l : List Run) (r : Run) : lenR (l ++ [r]) = lenR l + r.2 := by
  rw [lenR_app, lenR_cons, lenR_nil]
  omega
def sizeR (b s e c : Int) : Int := (if b + c < e then b + c else e) - (if b > s then b else s)
def pieceR (b s e : Int) (r : Run) : List Run := if 0 < sizeR b s e r.2 then [(r.1, sizeR b s e r.2)] else []
def cutR (s e : Int) : Int → List Run → List Run
  | _, [] => []
  | b, r :: t => pieceR b s e r ++ cutR s e (b + r.2) t
theorem cutR_snoc (s e : Int) : ∀ (l : List Run) (b : Int) (r : Run), cutR s e b (l ++ [r]) = cutR s e b l ++ pieceR (b + lenR l) s e r
  | [], b, r => by
    show pieceR b s e r ++ [] = [] ++ pieceR (b + lenR []) s e r
    rw [lenR_nil, Int.add_zero, List.append_nil, List.nil_append]
  | x :: t, b, r => by
    show pieceR b s e x ++ cutR s e (b + x.2) (t ++ [r]) = (pieceR b s e x ++ cutR s e (b + x.2) t) ++ pieceR (b + lenR (x :: t)) s e r
    rw [cutR_snoc s e t, lenR_cons, List.append_assoc, Int.add_assoc]
theorem pieceR_len (b s e : Int) (r : Run) : (pieceR b s e r).length ≤ 1 := by
  unfold pieceR
  split <;> simp
theorem cutR_len (s e : Int) : ∀ (l : List Run) (b : Int), (cutR s e b l).length ≤ l.length
  | [], _ => Nat.le_refl _
  | r :: t, b => by
    show (pieceR b s e r ++ cutR s e (b + r.2) t).length ≤ (r :: t).length
    have h1 := pieceR_len b s e r
    have h2 := cutR_len s e t (b + r.2)
    rw [List.length_append, List.length_cons]
    omega
section
variable {P : Program} {w : World} {K : PySem.W.Frag} {mg : Str → Option Value} {base : Heap}
end
end UP

set_option Elab.async false
set_option linter.all false
set_option maxRecDepth 100000
set_option maxHeartbeats 4000000
namespace UP
open PySem PySem.Spec PyProof.Rows L2
/-! ### the mirror of the states -/
def numR : Option Run → Int
  | none => 0
  | some r => r.2
def leavR : Option Run → Str → Int → Int
  | none, _, _ => 0
  | some r, k, c => if r.1 = k then 0 else if c < r.2 then c else r.2
def stepR : Option Run → Str → Int → Option Run
  | some r, k, c => if r.1 = k then some (k, r.2 + c) else if 0 < r.2 - c then some (r.1, r.2 - c) else if r.2 - c = 0 then none else some (k, -(r.2 - c))
  | none, k, c => some (k, c)
def withR (k : Str) (n : Int) : Option Run := if n = 0 then none else some (k, n)
def stR (rs : List Run) (st : Option Run) : Option Run := rs.foldl (fun s r => stepR s r.1 r.2) st
theorem stR_snoc (l : List Run) (r : Run) (st : Option Run) : stR (l ++ [r]) st = stepR (stR l st) r.1 r.2 := by
  unfold stR
  rw [List.foldl_append]
  rfl
section
variable {P : Program} {w : World} {K : PySem.W.Frag} {mg : Str → Option Value} {base : Heap}
/-! waiting_number: slots 0:state -/
abbrev s_waiting_number : Stmt := topS 29
theorem sc_waiting_number : FnScope ["state"] ["state"] (defScope s_waiting_number) := ⟨rfl, rfl, rfl, by decide +kernel, rfl, by decide +kernel, by decide +kernel⟩
def sp_waiting_number : Sp := fun vs H Q _ => ∃ (v : V) (st : Option Run), vs = [v] ∧ StV H v st ∧ Q (.int (numR st)) H
theorem ok_waiting_number (D : Df K mg "waiting_number" s_waiting_number) : Has P w K mg base 1 "waiting_number" ["state"] sp_waiting_number := by
  refine has_of D sc_waiting_number (fun _ _ _ _ _ _ us hl => match us, hl with | [_], _ => rfl) (fun vs H Q E h => ?_) (fun f cdv A outer s₀ H vs Q E hr h => ?_)
  · obtain ⟨a, rs, rfl, _⟩ := h
    rfl
  · obtain ⟨v, st, rfl, hv, q⟩ := h
    refine ⟨_, (pss_one (ps_ret (pe_ifExp (pt_cmpR op_isN (pv 0) pe_non (nomark _)) pe_int (pe_ix ix_tup (pv 0) pe_int (fun _ _ => rfl))))), ?_⟩
    cases st with
    | none =>
      cases hv
      exact ⟨_, rfl, rfl, _, rfl, iteP rfl q⟩
    | some r =>
      obtain ⟨t, rfl, ht⟩ := hv
      exact ⟨_, rfl, rfl, _, rfl, iteN rfl ⟨_, rfl, t, _, 1, _, rfl, rfl, .of ht, at1, q⟩⟩
/-! leaving_number: slots 0:state 1:kind 2:count -/
abbrev s_leaving_number : Stmt := topS 31
theorem sc_leaving_number : FnScope ["state", "kind", "count"] ["state", "kind", "count"] (defScope s_leaving_number) := ⟨rfl, rfl, rfl, by decide +kernel, rfl, by decide +kernel, by decide +kernel⟩
def sp_leaving_number : Sp := fun vs H Q _ => ∃ (v : V) (st : Option Run) (k : Str) (c : Int), vs = [v, .str k, .int c] ∧ StV H v st ∧ Q (.int (leavR st k c)) H
theorem ok_leaving_number (D : Df K mg "leaving_number" s_leaving_number) (T : Tx mg) : Has P w K mg base 1 "leaving_number" ["state", "kind", "count"] sp_leaving_number := by
  refine has_of D sc_leaving_number (fun _ _ _ _ _ _ us hl => match us, hl with | [_, _, _], _ => rfl) (fun vs H Q E h => ?_) (fun f cdv A outer s₀ H vs Q E hr h => ?_)
  · obtain ⟨a, rs, _, _, rfl, _⟩ := h
    rfl
  · obtain ⟨v, st, k, c, rfl, hv, q⟩ := h
    refine ⟨_, (pss_cons (ps_if (PW.pt (pw_or (pt_cmpR op_isN (pv 0) pe_non (nomark _)) (pw_or1 (pt_cmpR op_eq (pe_ix ix_tup (pv 0) pe_int (fun _ _ => rfl)) (pv 1) (nomark _))))) (pss_one (ps_ret pe_int)) pss_nil)
    (pss_one (ps_ret (pe_callB (call_min2 rfl) (by rfl) T.n_min (by decide +kernel) (pa_cons (pe_ix ix_tup (pv 0) pe_int (fun _ _ => rfl)) (pa_cons (pv 2) pa_nil)))))), ?_⟩
    cases st with
    | none =>
      cases hv
      exact ⟨_, rfl, rfl, _, rfl, iteP rfl (iteT q)⟩
    | some r =>
      obtain ⟨t, rfl, ht⟩ := hv
      refine ⟨_, rfl, rfl, _, rfl, iteN rfl ⟨_, rfl, t, _, 0, _, rfl, rfl, .of ht, at0, _, rfl, rfl, _, rfl, ?_⟩⟩
      by_cases e : r.1 = k
      · refine iteP (by rw [e]; exact decide_eq_true rfl) ?_
        rw [show leavR (some r) k c = 0 from if_pos e] at q
        exact q
      · refine iteN (decide_eq_false fun z => e (V.str.inj z)) ⟨_, rfl, t, _, 1, _, rfl, rfl, .of ht, at1, _, rfl, _, _, rfl, ?_⟩
        rw [show leavR (some r) k c = if c < r.2 then c else r.2 from if_neg e] at q
        exact q
/-! state_with: slots 0:kind 1:number -/
abbrev s_state_with : Stmt := topS 30
theorem sc_state_with : FnScope ["kind", "number"] ["kind", "number"] (defScope s_state_with) := ⟨rfl, rfl, rfl, by decide +kernel, rfl, by decide +kernel, by decide +kernel⟩
def sp_state_with : Sp := fun vs H Q _ => ∃ (k : Str) (n : Int), vs = [.str k, .int n] ∧ ∀ H' v', Same H H' → StV H' v' (withR k n) → Q v' H'
theorem ok_state_with (D : Df K mg "state_with" s_state_with) : Has P w K mg base 1 "state_with" ["kind", "number"] sp_state_with := by
  refine has_of D sc_state_with (fun _ _ _ _ _ _ us hl => match us, hl with | [_, _], _ => rfl) (fun vs H Q E h => ?_) (fun f cdv A outer s₀ H vs Q E hr h => ?_)
  · obtain ⟨k, n, rfl, _⟩ := h
    rfl
  · obtain ⟨k, n, rfl, q⟩ := h
    refine ⟨_, (pss_one (ps_ret (pe_ifExp (pt_cmpR op_eq (pv 1) pe_int (nomark _)) pe_non (pe_tup (pa_cons (pv 0) (pa_cons (pv 1) pa_nil)))))), ?_⟩
    refine ⟨_, rfl, rfl, _, rfl, ?_⟩
    by_cases e : n = 0
    · rw [show withR k n = none from if_pos e] at q
      exact iteP (decide_eq_true (by rw [e])) (q _ _ (Same.refl _) rfl)
    · rw [show withR k n = some (k, n) from if_neg e] at q
      refine iteN (decide_eq_false fun z => e (V.int.inj z)) ?_
      exact ⟨_, rfl, _, rfl, (by show 2 ≤ sizeLine; decide), fun n' nn => q _ _ (same_upd nn) ⟨n', rfl, upd_same⟩⟩
/-! state_after_run: slots 0:state 1:kind 2:count 3:left_over -/
abbrev s_state_after_run : Stmt := topS 32
theorem sc_state_after_run : FnScope ["state", "kind", "count", "left_over"] ["state", "kind", "count"] (defScope s_state_after_run) := ⟨rfl, rfl, rfl, by decide +kernel, rfl, by decide +kernel, by decide +kernel⟩
def sp_state_after_run : Sp := fun vs H Q _ => ∃ (v : V) (st : Option Run) (k : Str) (c : Int), vs = [v, .str k, .int c] ∧ StV H v st ∧ 1 ≤ c ∧ ∀ H' v', Same H H' → StV H' v' (stepR st k c) → Q v' H'
theorem ok_state_after_run (D : Df K mg "state_after_run" s_state_after_run) (G_waiting_number : Has P w K mg base 1 "waiting_number" ["state"] sp_waiting_number) (G_state_with : Has P w K mg base 1 "state_with" ["kind", "number"] sp_state_with) : Has P w K mg base 2 "state_after_run" ["state", "kind", "count"] sp_state_after_run := by
  refine has_of D sc_state_after_run (fun _ _ _ _ _ _ us hl => match us, hl with | [_, _, _], _ => rfl) (fun vs H Q E h => ?_) (fun f cdv A outer s₀ H vs Q E hr h => ?_)
  · obtain ⟨a, rs, _, _, rfl, _⟩ := h
    rfl
  · obtain ⟨v, st, k, c, rfl, hv, hc, q⟩ := h
    refine ⟨_, (pss_cons (ps_if (PW.pt (pw_and (pt_cmpR op_notN (pv 0) pe_non (nomark _)) (pw_and1 (pt_cmpR op_eq (pe_ix ix_tup (pv 0) pe_int (fun _ _ => rfl)) (pv 1) (nomark _))))) (pss_one (ps_ret (pe_tup (pa_cons (pv 1) (pa_cons (pe_op op_add (pe_ix ix_tup (pv 0) pe_int (fun _ _ => rfl)) (pv 2)) pa_nil))))) pss_nil)
    (pss_cons (ps_set (i := 3) sc_state_after_run.nd rfl (by first | exact Or.inl rfl | exact Or.inr rfl) (pe_op op_sub (pe_callH G_waiting_number (hr.mono (by omega)) (by rfl) (pa_cons (pv 0) pa_nil)) (pv 2)))
    (pss_cons (ps_if (pt_cmpR op_gt (pv 3) pe_int (nomark _)) (pss_one (ps_ret (pe_tup (pa_cons (pe_ix ix_tup (pv 0) pe_int (fun _ _ => rfl)) (pa_cons (pv 3) pa_nil))))) pss_nil)
    (pss_one (ps_ret (pe_callH G_state_with (hr.mono (by omega)) (by rfl) (pa_cons (pv 1) (pa_cons (pe_un un_neg (pv 3)) pa_nil)))))))), ?_⟩
    cases st with
    | none =>
      cases hv
      refine ⟨_, rfl, rfl, _, rfl, iteN rfl (iteF ?_)⟩
      refine ⟨_, rfl, _, none, rfl, rfl, _, rfl, _, _, rfl, rfl, ?_⟩
      refine ⟨_, rfl, _, _, rfl, rfl, _, rfl, iteN (decide_eq_false (by show ¬ (0 : Int) < 0 - c; omega)) ?_⟩
      refine ⟨_, rfl, _, rfl, _, rfl, k, -(0 - c), rfl, fun H' v' s h => q H' v' s ?_⟩
      have e : withR k (-(0 - c)) = some (k, c) := by
        unfold withR
        rw [if_neg (by omega), show -(0 - c) = c by omega]
      rw [e] at h
      exact h
    | some r =>
      obtain ⟨t, rfl, ht⟩ := hv
      refine ⟨_, rfl, rfl, _, rfl, iteP rfl ⟨_, rfl, t, _, 0, _, rfl, rfl, .of ht, at0, _, rfl, rfl, _, rfl, ?_⟩⟩
      by_cases e : r.1 = k
      · have es : stepR (some r) k c = some (k, r.2 + c) := if_pos e
        rw [es] at q
        refine iteP (by rw [e]; exact decide_eq_true rfl) ?_
        exact ⟨_, rfl, _, rfl, t, _, 1, _, rfl, rfl, .of ht, at1, _, rfl, _, _, rfl, rfl, (by show 2 ≤ sizeLine; decide), fun n nn => q _ _ (same_upd nn) ⟨n, rfl, upd_same⟩⟩
      · refine iteN (decide_eq_false fun z => e (V.str.inj z)) ?_
        have es : stepR (some r) k c = if 0 < r.2 - c then some (r.1, r.2 - c) else if r.2 - c = 0 then none else some (k, -(r.2 - c)) := if_neg e
        rw [es] at q
        refine ⟨_, rfl, _, some r, rfl, ⟨t, rfl, ht⟩, _, rfl, _, _, rfl, rfl, ?_⟩
        refine ⟨_, rfl, _, _, rfl, rfl, _, rfl, ?_⟩
        by_cases e1 : 0 < r.2 - c
        · rw [if_pos e1] at q
          refine iteP (decide_eq_true e1) ?_
          exact ⟨_, rfl, t, _, 0, _, rfl, rfl, .of ht, at0, _, rfl, (by show 2 ≤ sizeLine; decide), fun n nn => q _ _ (same_upd nn) ⟨n, rfl, upd_same⟩⟩
        · rw [if_neg e1] at q
          refine iteN (decide_eq_false e1) ⟨_, rfl, _, rfl, _, rfl, k, -(r.2 - c), rfl, fun H' v' s h => q H' v' s ?_⟩
          have e3 : withR k (-(r.2 - c)) = if r.2 - c = 0 then none else some (k, -(r.2 - c)) := by
            unfold withR
            by_cases e2 : r.2 - c = 0
            · rw [if_pos e2, if_pos (by omega)]
            · rw [if_neg e2, if_neg (by omega)]
          rw [e3] at h
          exact h
end
end UP

set_option Elab.async false
set_option linter.all false
set_option maxRecDepth 100000
set_option maxHeartbeats 4000000
namespace UP
open PySem PySem.Spec PyProof.Rows L2
def DfD (K : PySem.W.Frag) (mg : Str → Option Value) (x : Str) (st : Stmt) (dvs : List V) : Prop := ∃ f fd, mg x = some (.ref f) ∧ FunD K x x (defArgs st) (defBody st) (defScope st) dvs [] f fd
/-- a def whose last parameter, kw, has the default None -/
def HasD (P : Program) (w : World) (K : PySem.W.Frag) (mg : Str → Option Value) (base : Heap) (k : Nat) (x : Str) (ps : List Str) (n : Nat) (kw : Str) (sp : Sp) : Prop :=
  ∃ f fd, mg x = some (.ref f) ∧ PySem.W.keepIn K (.ref f) = true ∧ Binds K fd ps [] ∧ (∃ ds, Vals [.non] ds ∧ Binds K fd ps ds) ∧ KBn K fd ps n [kw] (fun us ws => us ++ ws) (fun vs zs => vs ++ zs) ∧ FnOk P w K mg base CX0 k f fd ps sp
section
variable {P : Program} {w : World} {K : PySem.W.Frag} {mg : Str → Option Value} {base : Heap}
theorem HasD.has {k n : Nat} {x kw : Str} {ps : List Str} {sp : Sp} (h : HasD P w K mg base k x ps n kw sp) : Has P w K mg base k x ps sp := by
  obtain ⟨f, fd, g, kp, b, _, _, F⟩ := h
  exact ⟨f, fd, g, kp, b, F⟩
theorem has_ofD {x kw : Str} {st : Stmt} {ps N : List Str} {k n : Nat} {sp : Sp} (D : DfD K mg x st [.non]) (S : FnScope N ps (defScope st)) (hpn : ps.length = n + 1)
    (hb : ∀ (T : Addr) (kV doc pm : Value) (an : Option Addr) (cdv ct : Value) (us its : List Value), us.length = n + 1 → its.length = 1 →
      ∃ k, bindArgs (PySem.W.fnOf x x (defArgs st) (defBody st) (defScope st) (.ref T) kV doc pm an cdv ct) ⟨us, []⟩ = seqItems? (.ref T) >>= k ∧ k (some its.toArray) = pure (ps.zip us))
    (hb1 : ∀ (T : Addr) (kV doc pm : Value) (an : Option Addr) (cdv ct : Value) (us its : List Value), us.length = n → its.length = 1 →
      ∃ k, bindArgs (PySem.W.fnOf x x (defArgs st) (defBody st) (defScope st) (.ref T) kV doc pm an cdv ct) ⟨us, []⟩ = seqItems? (.ref T) >>= k ∧ k (some its.toArray) = pure (ps.zip (us ++ its)))
    (hb2 : ∀ (T : Addr) (kV doc pm : Value) (an : Option Addr) (cdv ct : Value) (us its : List Value) (v : Value), us.length = n → its.length = 1 →
      ∃ k, bindArgs (PySem.W.fnOf x x (defArgs st) (defBody st) (defScope st) (.ref T) kV doc pm an cdv ct) ⟨us, [(kw, v)]⟩ = seqItems? (.ref T) >>= k ∧ k (some its.toArray) = pure (ps.zip (us ++ [v])))
    (len : ∀ vs H Q E, sp vs H Q E → vs.length = ps.length)
    (body : ∀ (f : Addr) (cdv : Value) (A : Around) (outer : List Env) (s : Shared) (H : Hp) (vs : List V) (Q : VK) (E : XK), Room k (A.deeper (envOfC x (defScope st) s.heap.objs.size f cdv)) → sp vs H Q E →
      ∃ t, PSs (cxOf CX0 P w K mg base N x (defScope st) f cdv A outer s H E).nox (defBody st) t ∧ t { nx := fun _ H' => Q .non H', rt := Q } (start N vs) H) :
    HasD P w K mg base (k + 1) x ps n kw sp := by
  obtain ⟨f, fd, g, F⟩ := D
  have B0 : Binds K fd ps [] := by
    obtain ⟨ds, v, b⟩ := F.binds1 (n + 1) 1 (ps := ps) (by intro z; cases z) (by rw [hpn]; rfl) fun T kV doc pm an cdv ct us its h1 h2 => by
      obtain ⟨k, e1, e2⟩ := hb T kV doc pm an cdv ct us its h1 h2
      refine ⟨k, e1, ?_⟩
      have h3 : its.length ≤ 1 := Nat.le_of_eq h2
      rw [e2, List.drop_of_length_le h3, List.append_nil]
    cases v
    exact b
  have B1 : ∃ ds, Vals [V.non] ds ∧ Binds K fd ps ds := by
    obtain ⟨ds, v, b⟩ := F.binds1 n 0 (ps := ps) (by intro z; cases z) (by rw [hpn]; rfl) fun T kV doc pm an cdv ct us its h1 h2 => by
      obtain ⟨k, e1, e2⟩ := hb1 T kV doc pm an cdv ct us its h1 h2
      exact ⟨k, e1, by rw [e2, List.drop_zero]⟩
    exact ⟨ds, v, b⟩
  have B2 : KBn K fd ps n [kw] (fun us ws => us ++ ws) (fun vs zs => vs ++ zs) := by
    refine ⟨fun s us ws X l1 l2 => ?_, fun r1 r2 => r1.append r2⟩
    obtain ⟨oc, od, dV, kV, doc, pm, an, cdv, ct, osl, rfl, lk, hcd, hD, _⟩ := F.ex
    rcases hD with ⟨z, _⟩ | ⟨_, T, o, its, m, rfl, lT, oT, rT⟩
    · cases z
    · match ws, l2 with
      | [v], _ =>
        obtain ⟨k, e1, e2⟩ := hb2 T kV doc pm an cdv ct us its v l1 rT.length.symm
        refine BindsTo.of_looks fun M => ?_
        show PySem.W.Looks M s.heap (bindArgs _ ⟨us, [(kw, v)]⟩) _
        rw [e1]
        exact looks_items X lT oT (.of_pure e2)
  refine ⟨f, fd, g, F.kp, B0, B1, B2, F.ok S len fun cdv A outer s H vs Q E hr h => ?_⟩
  obtain ⟨t, p, q⟩ := body f cdv A outer s H vs Q E hr h
  exact ⟨t, p.nox, q⟩
end
section
variable {X : Cx}
/-- the default taken -/
theorem pe_callDH {k n : Nat} {x kw : Str} {ps : List Str} {sp : Sp} {p pos : Pos} {e : Expr} {es : List Expr} {t : TA} (G : HasD X.prog X.w X.K X.mg X.base k x ps n kw sp) (hr : Room k X.A) (hg : Gl X x) (ha : PA X (e :: es) t)
    (hdb : (x == ("__debug__" : Str)) = false := by decide) (he : starEach (e :: es) X.env = (false, eval e X.env) :: starEach es X.env := by rfl) (hpl : (backTo pos (starEach es X.env)).any (·.1) = false := by rfl) :
    PE X (.Call (.Name x p) (e :: es) [] pos) (tCall sp [.non] E0 t) := by
  obtain ⟨f, fd, g, kp, _, ⟨ds, v, b⟩, _, F⟩ := G
  exact pe_call F hr hg g kp b v pass0 ha hdb he hpl
/-- the last one by its name -/
theorem pe_callNH {k n : Nat} {x kw : Str} {ps : List Str} {sp : Sp} {p pos : Pos} {e : Expr} {es : List Expr} {kws : List Keyword} {t tk : TA} (G : HasD X.prog X.w X.K X.mg X.base k x ps n kw sp) (hr : Room k X.A) (hg : Gl X x) (ha : PA X (e :: es) t) (hk : PK X kws tk)
    (h1 : (backToKw pos (keywordEach kws X.env)).all (·.1.isSome) = true := by rfl) (h2 : (backToKw pos (keywordEach kws X.env)).filterMap (·.1) = [kw] := by rfl) (hdb : (x == ("__debug__" : Str)) = false := by decide)
    (he : starEach (e :: es) X.env = (false, eval e X.env) :: starEach es X.env := by rfl) (hpl : ((backTo pos (starEach (e :: es) X.env)).any (·.1) || (backToKw pos (keywordEach kws X.env)).any (·.1.isNone)) = false := by rfl) :
    PE X (.Call (.Name x p) (e :: es) kws pos) (tCallN n 1 sp (fun vs zs => vs ++ zs) E0 t tk) := by
  obtain ⟨f, fd, g, kp, _, _, b, F⟩ := G
  exact pe_callN F hr hg g kp b pass0 ha hk h1 h2 hdb he hpl
end
section
variable {P : Program} {w : World} {K : PySem.W.Frag} {mg : Str → Option Value} {base : Heap}
theorem SeqOk.pos {rs : List Run} (h : SeqOk rs) : ∀ r ∈ rs, 1 ≤ r.2 := fun r m => (h.2.1 r m).2.1
theorem pieceR_pos {b s e : Int} {r x : Run} (h : x ∈ pieceR b s e r) : 1 ≤ x.2 := by
  unfold pieceR at h
  split at h
  · rename_i z
    simp only [List.mem_singleton] at h
    subst h
    show 1 ≤ sizeR b s e r.2
    omega
  · cases h
theorem cutR_pos {s e : Int} : ∀ {l : List Run} {b : Int}, ∀ x ∈ cutR s e b l, 1 ≤ x.2
  | [], _, x, h => by cases h
  | r :: t, b, x, h => by
    rcases List.mem_append.mp (show x ∈ pieceR b s e r ++ cutR s e (b + r.2) t from h) with h | h
    · exact pieceR_pos h
    · exact cutR_pos x h
end
end UP

set_option Elab.async false
set_option linter.all false
set_option maxRecDepth 100000
set_option maxHeartbeats 4000000
namespace UP
open PySem PySem.Spec PyProof.Rows L2
section
variable {P : Program} {w : World} {K : PySem.W.Frag} {mg : Str → Option Value} {base : Heap}
end
end UP

set_option Elab.async false
set_option linter.all false
set_option maxRecDepth 100000
set_option maxHeartbeats 4000000
namespace UP
open PySem PySem.Spec PyProof.Rows L2
/-! ### data -/
def dRun (r : Run) : PyData := .tuple [.str r.1, .int r.2]
theorem dp_run {K : PySem.W.Frag} {H : Hp} {v : V} {r : Run} (h : RunV H v r) : Dp K H v (dRun r) := by
  obtain ⟨t, rfl, h⟩ := h
  exact .tup (.of h) (.cons (.str _) (.cons (.int _) .nil))
theorem dp_all {K : PySem.W.Frag} {H : Hp} : ∀ {xs : List V} {rs : List Run}, Paired (RunV H) xs rs → DpAll K H xs (rs.map dRun)
  | _, _, .nil => .nil
  | _, _, .cons h t => .cons (dp_run h) (dp_all t)
theorem KindOk.str {s : Str} (h : KindOk s) : PyData.strOk s = true := by
  unfold PyData.strOk
  rw [Array.all_eq_true']
  intro c hc
  have := h.2.2 c (by simpa using hc)
  exact decide_eq_true (by omega)
theorem can_run {r : Run} (h : KindOk r.1) : (dRun r).canLay0 = true := by
  simp [dRun, PyData.canLay0, PyData.canLayAll0, h.str]
theorem can_runs : ∀ {rs : List Run}, (∀ r ∈ rs, KindOk r.1) → PyData.canLayAll0 (rs.map dRun) = true
  | [], _ => by simp [PyData.canLayAll0]
  | r :: t, h => by
    rw [List.map_cons, PyData.canLayAll0, can_run (h r (List.mem_cons_self ..)), can_runs fun x hx => h x (List.mem_cons_of_mem _ hx)]
    rfl
theorem depth_run (r : Run) : (dRun r).depth ≤ 2 := by
  simp [dRun, PyData.depth, PyData.depthAll]
theorem depth_runs : ∀ (rs : List Run), PyData.depthAll (rs.map dRun) ≤ 2
  | [] => by simp [PyData.depthAll]
  | r :: t => by
    rw [List.map_cons, PyData.depthAll]
    exact Nat.max_le.mpr ⟨depth_run r, depth_runs t⟩
theorem shaped_runs {rs : List Run} (h : ∀ r ∈ rs, KindOk r.1) : SeqAt.shaped (.list (rs.map dRun)) = true := by
  unfold SeqAt.shaped
  rw [PyData.canLay0, can_runs h, PyData.depth]
  have := depth_runs rs
  exact decide_eq_true (by omega)
theorem shaped_run {r : Run} (h : KindOk r.1) : SeqAt.shaped (dRun r) = true := by
  unfold SeqAt.shaped
  rw [can_run h]
  have := depth_run r
  exact decide_eq_true (by omega)
theorem shaped_nil : SeqAt.shaped (.list []) = true := by decide
theorem eqv_nil (rs : List Run) : PyData.eqv (.list (rs.map dRun)) (.list []) = rs.isEmpty := by
  cases rs with
  | nil => simp [PyData.eqv, PyData.eqvAll]
  | cons r t => simp [PyData.eqv, PyData.eqvAll]
theorem sb {sp : Addr} {H H' : Hp} (h : Same H H') : But sp H H' := fun b o _ e => h b o e
theorem But.free {sp : Addr} {H H' : Hp} (b : But sp H H') (z : Spr H' sp) {p : Addr} (h : H' p = none) : H p = none := by
  by_cases e : p = sp
  · subst e
    obtain ⟨_, _, _, h1, _⟩ := z
    rw [h1] at h
    cases h
  · cases q : H p with
    | none => rfl
    | some o =>
      rw [b p o e q] at h
      cases h
theorem Spr.ne {sp p : Addr} {H : Hp} (z : Spr H sp) (h : H p = none) : p ≠ sp := by
  obtain ⟨_, _, _, h1, _⟩ := z
  exact fun e => by rw [e, h1] at h; cases h
instance (s : Str) : Decidable (KindOk s) := by
  unfold KindOk
  infer_instance
section
variable {P : Program} {w : World} {K : PySem.W.Frag} {mg : Str → Option Value} {base : Heap}
end
end UP

set_option Elab.async false
set_option linter.all false
set_option maxRecDepth 100000
set_option maxHeartbeats 4000000
namespace UP
open PySem PySem.Spec PyProof.Rows L2
theorem pe_bmK {X : Cx} {K : PySem.W.Frag} {e : Expr} {c : String} {r : V → List V → Hp → VK → Prop} {to : TE} {t : TA} (h : X.K = K) (p : PE X e (tBM X.K c r to t)) : PE X e (tBM K c r to t) := h ▸ p
theorem if_by {c : TT} {t u : TS} {D : Ends} {σ : L2.St} {H : Hp} (R : Bool → Hp → Prop) (h : ∀ Q' : Bool → Hp → Prop, (∀ b H', R b H' → Q' b H') → c σ H Q') (ht : ∀ H', R true H' → t D σ H') (hu : ∀ H', R false H' → u D σ H') : tIfS c t u D σ H := by
  refine h _ fun b H' r => ?_
  cases b with
  | true => exact iteT (ht H' r)
  | false => exact iteF (hu H' r)
theorem erase_map {α β : Type} (f : α → β) : ∀ (l : List α) (i : Nat), (l.map f).eraseIdx i = (l.eraseIdx i).map f
  | [], _ => rfl
  | x :: t, 0 => rfl
  | x :: t, i + 1 => by
    simp only [List.map_cons, List.eraseIdx_cons_succ]
    rw [erase_map f t i]
def eight : List Str := ["a", "b", "c", "ab", "zz", "abcdefgh", "aa", "z"]
theorem eight_ok : ∀ s ∈ eight, KindOk s := by decide +kernel
theorem alt_snoc {l : List Run} {x : Run} (h : Alt l) (k : ∀ y, l[l.length - 1]? = some y → y.1 ≠ x.1) : Alt (l ++ [x]) := by
  intro i a b ha hb
  by_cases h1 : i + 1 < l.length
  · rw [List.getElem?_append_left (by omega)] at ha
    rw [List.getElem?_append_left h1] at hb
    exact h i a b ha hb
  · by_cases h2 : i + 1 = l.length
    · rw [List.getElem?_append_left (by omega)] at ha
      rw [List.getElem?_append_right (by omega), h2, Nat.sub_self] at hb
      cases hb
      rw [show i = l.length - 1 by omega] at ha
      exact k a ha
    · rw [List.getElem?_append_right (by omega)] at hb
      rw [List.getElem?_eq_none (by simp; omega)] at hb
      cases hb
theorem pow62 {x : Int} (h0 : 0 ≤ x) (h1 : x ≤ 1000000) : -(2 ^ 62) ≤ x ∧ x < 2 ^ 62 := by omega
theorem wide8 {m : Int} (h0 : 0 ≤ m) (h1 : m ≤ 1000000000000000000000000000000000000000000000000000000000000) : m.natAbs < 2 ^ 8000 :=
  Nat.lt_of_lt_of_le (show m.natAbs < 2 ^ 256 by omega) (Nat.pow_le_pow_right (by decide) (by decide))
section
variable {P : Program} {w : World} {K : PySem.W.Frag} {mg : Str → Option Value} {base : Heap}
end
end UP

set_option Elab.async false
set_option linter.all false
set_option maxRecDepth 100000
set_option maxHeartbeats 4000000
namespace UP
open PySem PySem.Spec PyProof.Rows L2
def scR (t : Int) (rs : List Run) : List Run := rs.map fun r => (r.1, r.2 * t)
def toldR (ws : List Run) : Option Run := match ws with
  | [] => none
  | r :: _ => some (r.1, (ws.length : Int))
def repR (k : Str) (n : Int) : Option Run := if n = 0 then none else some (k, n)
theorem repR_zero (k : Str) : repR k 0 = none := if_pos rfl
theorem repR_pos {k : Str} {n : Int} (h : 0 < n) : repR k n = some (k, n) := if_neg (by omega)
def PosO (st : Option Run) : Prop := ∀ r, st = some r → 1 ≤ r.2
theorem stepR_pos {st : Option Run} {k : Str} {c : Int} (h : PosO st) (hc : 1 ≤ c) : PosO (stepR st k c) := by
  intro r e
  cases st with
  | none =>
    cases e
    exact hc
  | some x =>
    have hx := h x rfl
    have e : (if x.1 = k then some (k, x.2 + c) else if 0 < x.2 - c then some (x.1, x.2 - c) else if x.2 - c = 0 then none else some (k, -(x.2 - c))) = some r := e
    by_cases h1 : x.1 = k
    · rw [if_pos h1] at e
      cases e
      show 1 ≤ x.2 + c
      omega
    · rw [if_neg h1] at e
      by_cases h2 : 0 < x.2 - c
      · rw [if_pos h2] at e
        cases e
        show 1 ≤ x.2 - c
        omega
      · rw [if_neg h2] at e
        by_cases h3 : x.2 - c = 0
        · rw [if_pos h3] at e
          cases e
        · rw [if_neg h3] at e
          cases e
          show 1 ≤ -(x.2 - c)
          omega
theorem stR_cons (r : Run) (l : List Run) (st : Option Run) : stR (r :: l) st = stR l (stepR st r.1 r.2) := rfl
theorem stR_pos : ∀ {rs : List Run} {st : Option Run}, PosO st → (∀ r ∈ rs, 1 ≤ r.2) → PosO (stR rs st)
  | [], _, h, _ => h
  | r :: t, st, h, k => by
    rw [stR_cons]
    exact stR_pos (stepR_pos h (k r (List.mem_cons_self ..))) fun x hx => k x (List.mem_cons_of_mem _ hx)
theorem StOk.pos {st : Option Run} (h : StOk st) : PosO st := fun r e => (h r e).2
section
variable {P : Program} {w : World} {K : PySem.W.Frag} {mg : Str → Option Value} {base : Heap}
end
end UP

set_option Elab.async false
set_option linter.all false
set_option maxRecDepth 100000
set_option maxHeartbeats 4000000
namespace UP
open PySem PySem.Spec PyProof.Rows L2
/-! ### plain data, by depth -/
def Dsc (v : V) (d : PyData) : Prop := (v = .non ∧ d = .none) ∨ (∃ b, v = .bl b ∧ d = .bool b) ∨ (∃ i, v = .int i ∧ d = .int i) ∨ ∃ s, v = .str s ∧ d = .str s
def Dt (H : Hp) : Nat → V → PyData → Prop
  | 0, v, d => Dsc v d
  | n + 1, v, d => Dsc v d ∨ (∃ a xs ds, v = .ref a ∧ H a = some (.lst xs) ∧ d = .list ds ∧ Paired (Dt H n) xs ds ∧ ds.length ≤ 100000) ∨ ∃ a xs ds, v = .ref a ∧ H a = some (.tup xs) ∧ d = .tuple ds ∧ Paired (Dt H n) xs ds ∧ ds.length ≤ 100000
theorem Dt.same {H H' : Hp} (s : Same H H') : ∀ {n : Nat} {v : V} {d : PyData}, Dt H n v d → Dt H' n v d
  | 0, _, _, h => h
  | n + 1, v, d, h => by
    rcases h with h | ⟨a, xs, ds, e, h, e2, p, l⟩ | ⟨a, xs, ds, e, h, e2, p, l⟩
    · exact .inl h
    · exact .inr (.inl ⟨a, xs, ds, e, s _ _ h, e2, Paired.imp (fun _ _ z => Dt.same s z) p, l⟩)
    · exact .inr (.inr ⟨a, xs, ds, e, s _ _ h, e2, Paired.imp (fun _ _ z => Dt.same s z) p, l⟩)
theorem dsc_ref {a : Addr} {d : PyData} (h : Dsc (.ref a) d) : False := by
  rcases h with ⟨h, _⟩ | ⟨_, h, _⟩ | ⟨_, h, _⟩ | ⟨_, h, _⟩ <;> cases h
theorem dsc_lst {v : V} {ds : List PyData} (h : Dsc v (.list ds)) : False := by
  rcases h with ⟨_, h⟩ | ⟨_, _, h⟩ | ⟨_, _, h⟩ | ⟨_, _, h⟩ <;> cases h
theorem dsc_tup {v : V} {ds : List PyData} (h : Dsc v (.tuple ds)) : False := by
  rcases h with ⟨_, h⟩ | ⟨_, _, h⟩ | ⟨_, _, h⟩ | ⟨_, _, h⟩ <;> cases h
theorem dsc_one {v v' : V} {d : PyData} (h : Dsc v d) (h' : Dsc v' d) : v = v' := by
  rcases h with ⟨e, z⟩ | ⟨x, e, z⟩ | ⟨x, e, z⟩ | ⟨x, e, z⟩ <;> subst z <;> rcases h' with ⟨e', z⟩ | ⟨y, e', z⟩ | ⟨y, e', z⟩ | ⟨y, e', z⟩ <;> cases z <;> rw [e, e']
theorem kit_no {K : PySem.W.Frag} {c : String} (h1 : kitB c "list" = some false) (h2 : kitB c "tuple" = some false) : PySem.W.kitAny K (.type c) [.type "list", .type "tuple"] = some false :=
  kitAny_cons (b := false) (kit_ty h1) (fun _ => kitAny_cons (b := false) (kit_ty h2) (fun _ => rfl) (fun z => nomatch z)) (fun z => nomatch z)
theorem ixL {K : PySem.W.Frag} {x y : V} {H : Hp} {Q : VK} (h : rIxL K x y H Q) : rIx K x y H Q := .inl h
theorem ixT {K : PySem.W.Frag} {x y : V} {H : Hp} {Q : VK} (h : rIxT K x y H Q) : rIx K x y H Q := .inr (.inl h)
section
variable {P : Program} {w : World} {K : PySem.W.Frag} {mg : Str → Option Value} {base : Heap}
end
end UP

set_option Elab.async false
set_option linter.all false
set_option maxRecDepth 100000
set_option maxHeartbeats 4000000
namespace UP
open PySem PySem.Spec PyProof.Rows L2
/-! ### a walk over one object that stays, whatever else is changed -/
structure WkA (J : It) (H : Hp) (a : Addr) (xs : List V) : Prop where
  go : ∀ i H', H' a = H a → i < xs.length → J.go i H'
  stop : ∀ H', H' a = H a → J.stop xs.length H'
  yld : ∀ i x H' H'', H' a = H a → J.yld i H' x H'' → H'' = H' ∧ xs[i]? = some x
def iSeqA (i : Nat) : TI := fun σ H R => ∃ a xs, σ[i]? = some (some (.ref a)) ∧ Sq2 H a xs ∧ ∀ J, WkA J H a xs → R J H
section
variable {X : Cx}
theorem wka_list {K : PySem.W.Frag} {H : Hp} {a : Addr} {xs : List V} (h : H a = some (.lst xs)) : WkA (Itl K a) H a xs :=
  ⟨fun i H' e hi => ⟨xs, xs[i], .of (e.trans h), List.getElem?_eq_getElem hi⟩, fun H' e => ⟨xs, .of (e.trans h), Nat.le_refl _⟩, fun i x H' H'' e y => ⟨y.1, y.2 xs (.of (e.trans h))⟩⟩
theorem wka_tup {K : PySem.W.Frag} {H : Hp} {a : Addr} {xs : List V} (h : H a = some (.tup xs)) : WkA (Itt K a) H a xs :=
  ⟨fun i H' e hi => ⟨xs, xs[i], .of (e.trans h), List.getElem?_eq_getElem hi⟩, fun H' e => ⟨xs, .of (e.trans h), Nat.le_refl _⟩, fun i x H' H'' e y => ⟨y.1, y.2 xs (.of (e.trans h))⟩⟩
theorem pi_seqA (i : Nat) {x : Str} {pos : Pos} {tg : Expr} (hN : X.N[i]? = some x := by rfl) (hv : Vis X.env.scope x := by first | exact Or.inl rfl | exact Or.inr (Or.inl rfl) | exact Or.inr (Or.inr rfl)) (hd : (x == ("__debug__" : Str)) = false := by decide)
    (hc : (x == ("__classdict__" : Str)) = false := by decide) : PI X tg (.Name x pos) (iSeqA i) := by
  refine ⟨fun pins s σ H R I hw => ?_⟩
  obtain ⟨a, xs, e, h, k⟩ := hw
  rcases h with h | h
  · exact (pi_list (pe_var hN hv hd hc)).run pins s σ H R I ⟨_, e, a, rfl, ⟨xs, .of h⟩, k _ (wka_list h)⟩
  · exact (pi_tup (pe_var hN hv hd hc)).run pins s σ H R I ⟨_, e, a, rfl, ⟨xs, .of h⟩, k _ (wka_tup h)⟩
end
theorem lc_wka {J : It} {H0 H1 : Hp} {a : Addr} {xs : List V} {g : TG} {tt : TT} {te : TE} {vs : List Nat} {σ : L2.St} {D : Addr} {Qd : Hp → Prop} (wk : WkA J H0 a xs) (Pv : Nat → Hp → Prop) (hsm : ∀ i H, Pv i H → H a = H0 a) (h0 : Pv 0 (upd H1 D (.lst [])))
    (hs : ∀ i x H, xs[i]? = some x → Pv i H → g x (wipe σ vs) H fun σ2 H2 => wipe σ2 vs = wipe σ vs ∧ tt σ2 H2 fun b H3 =>
      if b = true then te σ2 H3 fun y H4 => ∃ acc, H4 D = some (.lst acc) ∧ acc.length < sizeLine ∧ Pv (i + 1) (upd H4 D (.lst (acc ++ [y]))) else Pv (i + 1) H3) (hd : ∀ H, Pv xs.length H → Qd H) :
    ∃ W : Nat → Nat → Hp → Prop, (∃ m, W 0 m (upd H1 D (.lst []))) ∧ ∀ i m H, W i m H →
      (J.stop i H ∧ Qd H) ∨ (J.go i H ∧ ∃ Nx : Hp → Prop, (∀ H', Nx H' → ∃ m', m' < m ∧ W (i + 1) m' H') ∧ ∀ x H', J.yld i H x H' → g x (wipe σ vs) H' fun σ2 H2 => wipe σ2 vs = wipe σ vs ∧ tt σ2 H2 fun b H3 =>
        if b = true then te σ2 H3 fun y H4 => ∃ acc, H4 D = some (.lst acc) ∧ acc.length < sizeLine ∧ Nx (upd H4 D (.lst (acc ++ [y]))) else Nx H3) := by
  refine lc_gen Pv h0 (fun i H hi p => wk.go i H (hsm i H p) hi) (fun H p => wk.stop H (hsm _ H p)) (fun i x H H' hi p y => ?_) hd
  obtain ⟨e, ex⟩ := wk.yld i x H H' (hsm i H p) y
  subst e
  exact hs i x _ ex p
theorem for_gen {J : It} {n : Nat} {H : Hp} {g : TG} {tb : TS} {D : Ends} {σ : L2.St} (Pv : Nat → L2.St → Hp → Prop) (h0 : Pv 0 σ H) (hg : ∀ i σ H, i < n → Pv i σ H → J.go i H) (hst : ∀ σ H, Pv n σ H → J.stop n H)
    (hs : ∀ i x σ H H', i < n → Pv i σ H → J.yld i H x H' → g x σ H' fun σ2 H2 => tb { D with nx := Pv (i + 1), ct := Pv (i + 1), bk := D.nx } σ2 H2) (hd : ∀ σ H, Pv n σ H → D.nx σ H) :
    ∃ W : Nat → Nat → L2.St → Hp → Prop, (∃ m, W 0 m σ H) ∧ ∀ i m σ H, W i m σ H →
      (J.stop i H ∧ D.nx σ H) ∨ (J.go i H ∧ ∃ N : L2.St → Hp → Prop, (∀ σ' H', N σ' H' → ∃ m', m' < m ∧ W (i + 1) m' σ' H') ∧ ∀ x H', J.yld i H x H' → g x σ H' fun σ2 H2 => tb { D with nx := N, ct := N, bk := D.nx } σ2 H2) := by
  refine ⟨fun i m σ H => m = n - i ∧ i ≤ n ∧ Pv i σ H, ⟨n, by omega, Nat.zero_le _, h0⟩, ?_⟩
  rintro i m σ H ⟨rfl, hi, p⟩
  by_cases hlt : i < n
  · exact Or.inr ⟨hg i σ H hlt p, Pv (i + 1), fun σ' H' p' => ⟨n - (i + 1), by omega, rfl, hlt, p'⟩, fun x H' y => hs i x σ H H' hlt p y⟩
  · have e : i = n := by omega
    subst e
    exact Or.inl ⟨hst σ H p, hd σ H p⟩
theorem for_wka {J : It} {H0 H : Hp} {a : Addr} {xs : List V} {g : TG} {tb : TS} {D : Ends} {σ : L2.St} (wk : WkA J H0 a xs) (Pv : Nat → L2.St → Hp → Prop) (hsm : ∀ i σ H, Pv i σ H → H a = H0 a) (h0 : Pv 0 σ H)
    (hs : ∀ i x σ H, xs[i]? = some x → Pv i σ H → g x σ H fun σ2 H2 => tb { D with nx := Pv (i + 1), ct := Pv (i + 1), bk := D.nx } σ2 H2) (hd : ∀ σ H, Pv xs.length σ H → D.nx σ H) :
    ∃ W : Nat → Nat → L2.St → Hp → Prop, (∃ m, W 0 m σ H) ∧ ∀ i m σ H, W i m σ H →
      (J.stop i H ∧ D.nx σ H) ∨ (J.go i H ∧ ∃ N : L2.St → Hp → Prop, (∀ σ' H', N σ' H' → ∃ m', m' < m ∧ W (i + 1) m' σ' H') ∧ ∀ x H', J.yld i H x H' → g x σ H' fun σ2 H2 => tb { D with nx := N, ct := N, bk := D.nx } σ2 H2) := by
  refine for_gen Pv h0 (fun i σ H hi p => wk.go i H (hsm i σ H p) hi) (fun σ H p => wk.stop H (hsm _ σ H p)) (fun i x σ H H' hi p y => ?_) hd
  obtain ⟨e, ex⟩ := wk.yld i x H H' (hsm i σ H p) y
  subst e
  exact hs i x σ _ ex p
theorem Sq2.eq {H H' : Hp} {a : Addr} {xs : List V} (h : Sq2 H a xs) (s : Same H H') : H' a = H a := h.elim (fun z => (s _ _ z).trans z.symm) (fun z => (s _ _ z).trans z.symm)
/-! ### data without its dress -/
def Sim (N : Addr → Prop) (H : Hp) : Nat → V → PyData → Prop
  | 0, v, d => Dsc v d
  | n + 1, v, d => Dsc v d ∨ ∃ a xs ds, v = .ref a ∧ N a ∧ Sq2 H a xs ∧ d = .list ds ∧ Paired (Sim N H n) xs ds ∧ ds.length ≤ 1000
theorem Sim.keep {N N' : Addr → Prop} {H H' : Hp} (hn : ∀ a, N a → N' a) (hk : ∀ a o, N a → H a = some o → H' a = some o) : ∀ {n : Nat} {v : V} {d : PyData}, Sim N H n v d → Sim N' H' n v d
  | 0, _, _, h => h
  | n + 1, v, d, h => by
    rcases h with h | ⟨a, xs, ds, e, na, hx, e2, p, l⟩
    · exact .inl h
    · exact .inr ⟨a, xs, ds, e, hn a na, hx.elim (fun z => .inl (hk _ _ na z)) (fun z => .inr (hk _ _ na z)), e2, Paired.imp (fun _ _ z => Sim.keep hn hk z) p, l⟩
theorem Sim.dsc {N : Addr → Prop} {H : Hp} {v : V} {d : PyData} : ∀ {n : Nat}, Dsc v d → Sim N H n v d
  | 0, h => h
  | n + 1, h => .inl h
section
variable {P : Program} {w : World} {K : PySem.W.Frag} {mg : Str → Option Value} {base : Heap}
end
end UP

set_option Elab.async false
set_option linter.all false
set_option maxRecDepth 100000
set_option maxHeartbeats 4000000
namespace UP
open PySem PySem.Spec PyProof.Rows L2
/-! ### waiting items one by one -/
def plS (ws : List Run) (k : Str) (n : Nat) : List Run := match ws with
  | [] => [(k, (n : Int))]
  | r :: t => if r.1 = k then (r :: t) ++ [(k, (n : Int))] else t
def plP (ws : List Run) (k : Str) (n : Nat) : List (Int × Int) := match ws with
  | [] => []
  | r :: _ => if r.1 = k then [] else [(r.2, (n : Int))]
def plA (ws : List Run) (n : Nat) : List Str → List Run
  | [] => ws
  | k :: t => plA (plS ws k n) (n + 1) t
def psR (ws : List Run) (n : Nat) : List Str → List (Int × Int)
  | [] => []
  | k :: t => plP ws k n ++ psR (plS ws k n) (n + 1) t
theorem plA_snoc : ∀ (l : List Str) (ws : List Run) (n : Nat) (k : Str), plA ws n (l ++ [k]) = plS (plA ws n l) k (n + l.length)
  | [], ws, n, k => rfl
  | x :: t, ws, n, k => by
    show plA (plS ws x n) (n + 1) (t ++ [k]) = plS (plA (plS ws x n) (n + 1) t) k (n + (x :: t).length)
    rw [plA_snoc t, List.length_cons, show n + 1 + t.length = n + (t.length + 1) by omega]
theorem psR_snoc : ∀ (l : List Str) (ws : List Run) (n : Nat) (k : Str), psR ws n (l ++ [k]) = psR ws n l ++ plP (plA ws n l) k (n + l.length)
  | [], ws, n, k => by
    show plP ws k n ++ [] = [] ++ plP ws k (n + 0)
    rw [List.append_nil, List.nil_append, Nat.add_zero]
  | x :: t, ws, n, k => by
    show plP ws x n ++ psR (plS ws x n) (n + 1) (t ++ [k]) = (plP ws x n ++ psR (plS ws x n) (n + 1) t) ++ plP (plA (plS ws x n) (n + 1) t) k (n + (x :: t).length)
    rw [psR_snoc t, List.length_cons, List.append_assoc, show n + 1 + t.length = n + (t.length + 1) by omega]
def plMs (ws : List Run) (ks : List Str) : List (List Run) := (List.range (ks.length + 1)).map fun m => plA ws 0 (ks.take m)
theorem plMs_snoc (ws : List Run) (l : List Str) (k : Str) : plMs ws (l ++ [k]) = plMs ws l ++ [plA ws 0 (l ++ [k])] := by
  unfold plMs
  rw [List.length_append, List.length_cons, List.length_nil, Nat.zero_add, List.range_succ, List.map_append]
  congr 1
  · refine List.map_congr_left fun m hm => ?_
    have : m ≤ l.length := by
      have := List.mem_range.mp hm
      omega
    rw [List.take_append_of_le_length this]
  · rw [List.map_singleton, List.take_of_length_le (by rw [List.length_append]; exact Nat.le_refl _)]
theorem plMs_nil (ws : List Run) : plMs ws [] = [ws] := rfl
theorem plMs_len (ws : List Run) (l : List Str) : (plMs ws l).length = l.length + 1 := by
  unfold plMs
  rw [List.length_map, List.length_range]
theorem plS_len (ws : List Run) (k : Str) (n : Nat) : (plS ws k n).length ≤ ws.length + 1 := by
  cases ws with
  | nil => exact Nat.le_refl _
  | cons r t =>
    show (if r.1 = k then (r :: t) ++ [(k, (n : Int))] else t).length ≤ _
    split
    · rw [List.length_append]
      exact Nat.le_refl _
    · rw [List.length_cons]
      omega
theorem plA_len : ∀ (l : List Str) (ws : List Run) (n : Nat), (plA ws n l).length ≤ ws.length + l.length
  | [], ws, n => Nat.le_refl _
  | k :: t, ws, n => by
    have h1 := plA_len t (plS ws k n) (n + 1)
    have h2 := plS_len ws k n
    show (plA (plS ws k n) (n + 1) t).length ≤ _
    rw [List.length_cons]
    omega
theorem plP_len (ws : List Run) (k : Str) (n : Nat) : (plP ws k n).length ≤ 1 := by
  cases ws with
  | nil => exact Nat.zero_le _
  | cons r t =>
    show (if r.1 = k then [] else [(r.2, (n : Int))]).length ≤ 1
    split <;> simp
theorem psR_len : ∀ (l : List Str) (ws : List Run) (n : Nat), (psR ws n l).length ≤ l.length
  | [], ws, n => Nat.le_refl _
  | k :: t, ws, n => by
    have h1 := psR_len t (plS ws k n) (n + 1)
    have h2 := plP_len ws k n
    show (plP ws k n ++ psR (plS ws k n) (n + 1) t).length ≤ _
    rw [List.length_append, List.length_cons]
    omega
theorem plS_kinds {ws : List Run} {k : Str} {n : Nat} (h : ∀ r ∈ ws, KindOk r.1) (hk : KindOk k) : ∀ r ∈ plS ws k n, KindOk r.1 := by
  intro r hr
  cases ws with
  | nil =>
    rw [List.mem_singleton.mp (show r ∈ [(k, (n : Int))] from hr)]
    exact hk
  | cons x t =>
    have hr : r ∈ (if x.1 = k then (x :: t) ++ [(k, (n : Int))] else t) := hr
    by_cases e : x.1 = k
    · rw [if_pos e] at hr
      rcases List.mem_append.mp hr with z | z
      · exact h r z
      · rw [List.mem_singleton.mp z]
        exact hk
    · rw [if_neg e] at hr
      exact h r (List.mem_cons_of_mem _ hr)
theorem plA_kinds : ∀ {l : List Str} {ws : List Run} {n : Nat}, (∀ r ∈ ws, KindOk r.1) → (∀ k ∈ l, KindOk k) → ∀ r ∈ plA ws n l, KindOk r.1
  | [], _, _, h, _ => h
  | k :: t, ws, n, h, hl => plA_kinds (l := t) (plS_kinds h (hl k (List.mem_cons_self ..))) fun x hx => hl x (List.mem_cons_of_mem _ hx)
def w0R : Option Run → List Run
  | none => []
  | some r => List.replicate r.2.toNat (r.1, -1)
def itR (rs : List Run) : List Str := rs.flatMap fun r => List.replicate r.2.toNat r.1
theorem itR_snoc (l : List Run) (r : Run) : itR (l ++ [r]) = itR l ++ List.replicate r.2.toNat r.1 := by
  unfold itR
  rw [List.flatMap_append]
  simp
def PV (H : Hp) (v : V) (p : Int × Int) : Prop := ∃ t, v = .ref t ∧ H t = some (.tup [.int p.1, .int p.2])
theorem PV.same {H H' : Hp} {v : V} {p : Int × Int} (s : Same H H') (h : PV H v p) : PV H' v p := by
  obtain ⟨t, e, h⟩ := h
  exact ⟨t, e, s _ _ h⟩
theorem PV.grow {H : Hp} {D : Addr} {acc acc' : List V} {v : V} {p : Int × Int} (hD : H D = some (.lst acc)) (h : PV H v p) : PV (upd H D (.lst acc')) v p := by
  obtain ⟨t, e, h⟩ := h
  refine ⟨t, e, ?_⟩
  rw [upd_ne (ne_of h hD (by intro q; cases q))]
  exact h
theorem Runs.grow {H : Hp} {D a : Addr} {acc acc' : List V} {ws : List Run} (hD : H D = some (.lst acc)) (n : a ≠ D) (h : Runs H a ws) : Runs (upd H D (.lst acc')) a ws := by
  obtain ⟨xs, hx, hp⟩ := h
  refine ⟨xs, ?_, prs_grow hD hp⟩
  rw [upd_ne n]
  exact hx
/-- a list of runs apart from two others -/
def WL (H : Hp) (M N : Addr) (v : V) (ws : List Run) : Prop := ∃ a, v = .ref a ∧ a ≠ M ∧ a ≠ N ∧ Runs H a ws
theorem WL.same {H H' : Hp} {M N : Addr} {v : V} {ws : List Run} (s : Same H H') (h : WL H M N v ws) : WL H' M N v ws := by
  obtain ⟨a, e, n1, n2, h⟩ := h
  exact ⟨a, e, n1, n2, h.same s⟩
/-- what the play keeps -/
structure Pl (H0 H : Hp) (W M N : Addr) (ws0 : List Run) (ks ls : List Str) : Prop where
  sm : Same H0 H
  wm : W ≠ M
  wn : W ≠ N
  wr : Runs H W (plA ws0 0 ls)
  ms : ∃ xs, H M = some (.lst xs) ∧ Paired (WL H M N) xs (plMs ws0 ks)
  ps : ∃ ys, H N = some (.lst ys) ∧ Paired (PV H) ys (psR ws0 0 ls)
theorem flat_one {α : Type} (x : α) : ∀ n : Nat, (List.replicate n [x]).flatten = List.replicate n x
  | 0 => rfl
  | n + 1 => by
    rw [List.replicate_succ, List.flatten_cons, flat_one x n]
    rfl
theorem paired_rep {α β : Type} {F : α → β → Prop} {a : α} {b : β} (h : F a b) : ∀ n : Nat, Paired F (List.replicate n a) (List.replicate n b)
  | 0 => .nil
  | n + 1 => .cons h (paired_rep h n)
theorem len_items {rs : List Run} (h : ∀ r ∈ rs, 1 ≤ r.2 ∧ r.2 ≤ 1000) : (itR rs).length ≤ 1000 * rs.length := by
  induction rs with
  | nil => exact Nat.le_refl _
  | cons r t ih =>
    have e : itR (r :: t) = List.replicate r.2.toNat r.1 ++ itR t := rfl
    have h1 := h r (List.mem_cons_self ..)
    have h2 := ih fun x hx => h x (List.mem_cons_of_mem _ hx)
    rw [e, List.length_append, List.length_replicate, List.length_cons]
    omega
end UP

set_option Elab.async false
set_option linter.all false
set_option maxRecDepth 100000
set_option maxHeartbeats 4000000
namespace UP
open PySem PySem.Spec PyProof.Rows L2
section
variable {P : Program} {w : World} {K : PySem.W.Frag} {mg : Str → Option Value} {base : Heap}
end
end UP

set_option Elab.async false
set_option linter.all false
set_option maxRecDepth 100000
set_option maxHeartbeats 4000000
namespace UP
open PySem PySem.Spec PyProof.Rows L2
/-! ### one arrival after the other -/
def stI (ks : List Str) (st : Option Run) : Option Run := ks.foldl (fun s k => stepR s k 1) st
theorem stI_app (l m : List Str) (st : Option Run) : stI (l ++ m) st = stI m (stI l st) := List.foldl_append ..
theorem step_same {r : Run} {k : Str} {c : Int} (h : r.1 = k) : stepR (some r) k c = some (k, r.2 + c) := if_pos h
theorem step_other {r : Run} {k : Str} {c : Int} (h : r.1 ≠ k) : stepR (some r) k c = if 0 < r.2 - c then some (r.1, r.2 - c) else if r.2 - c = 0 then none else some (k, -(r.2 - c)) := if_neg h
theorem step_step {s : Option Run} {k : Str} {c : Int} (h : PosO s) (hc : 1 ≤ c) : stepR (stepR s k 1) k c = stepR s k (1 + c) := by
  cases s with
  | none => exact step_same (r := (k, 1)) rfl
  | some r =>
    have r1 := h r rfl
    by_cases e : r.1 = k
    · rw [step_same e, step_same e, step_same (r := (k, r.2 + 1)) rfl]
      show some (k, r.2 + 1 + c) = _
      rw [Int.add_assoc]
    · rw [step_other e, step_other e]
      by_cases h1 : 0 < r.2 - 1
      · rw [if_pos h1, step_other (r := (r.1, r.2 - 1)) e]
        show (if 0 < r.2 - 1 - c then some (r.1, r.2 - 1 - c) else if r.2 - 1 - c = 0 then none else some (k, -(r.2 - 1 - c))) = _
        rw [show r.2 - 1 - c = r.2 - (1 + c) by omega]
      · have e2 : r.2 - 1 = 0 := by omega
        rw [if_neg h1, if_pos e2, if_neg (by omega), if_neg (by omega)]
        show some (k, c) = _
        rw [show -(r.2 - (1 + c)) = c by omega]
theorem it_step : ∀ (n : Nat) (s : Option Run) (k : Str), PosO s → stI (List.replicate (n + 1) k) s = stepR s k ((n : Int) + 1)
  | 0, s, k, _ => rfl
  | n + 1, s, k, h => by
    show stI (List.replicate (n + 1) k) (stepR s k 1) = _
    rw [it_step n _ k (stepR_pos h (by decide)), step_step h (by omega)]
    congr 1
    omega
theorem st_items : ∀ (rs : List Run) (st : Option Run), PosO st → (∀ r ∈ rs, 1 ≤ r.2) → stR rs st = stI (itR rs) st
  | [], st, _, _ => rfl
  | r :: t, st, h, k => by
    have c1 := k r (List.mem_cons_self ..)
    have e : itR (r :: t) = List.replicate r.2.toNat r.1 ++ itR t := rfl
    obtain ⟨n, hn⟩ : ∃ n : Nat, r.2.toNat = n + 1 := ⟨r.2.toNat - 1, by omega⟩
    rw [e, stI_app, hn, it_step n _ _ h, stR_cons, show ((n : Int) + 1) = r.2 by omega]
    exact st_items t _ (stepR_pos h c1) fun x hx => k x (List.mem_cons_of_mem _ hx)
theorem take_app {α : Type} : ∀ (l m : List α) (n : Nat), (l ++ m).take n = l.take n ++ m.take (n - l.length)
  | [], m, n => by
    rw [List.nil_append, List.take_nil, List.nil_append, List.length_nil, Nat.sub_zero]
  | x :: t, m, 0 => by
    rw [List.take_zero, List.take_zero, Nat.zero_sub, List.take_zero]
    rfl
  | x :: t, m, n + 1 => by
    rw [List.cons_append, List.take_succ_cons, take_app t m n, List.take_succ_cons, List.length_cons, Nat.add_sub_add_right]
    rfl
theorem it_app (l m : List Run) : itR (l ++ m) = itR l ++ itR m := List.flatMap_append ..
theorem cut_items (e : Int) : ∀ (rs : List Run) (b : Int), 0 ≤ b → (∀ r ∈ rs, 1 ≤ r.2) → itR (cutR 0 e b rs) = (itR rs).take (e - b).toNat
  | [], b, _, _ => by
    show ([] : List Str) = ([] : List Str).take _
    rw [List.take_nil]
  | r :: t, b, hb, k => by
    have c1 := k r (List.mem_cons_self ..)
    have ih := cut_items e t (b + r.2) (by omega) fun x hx => k x (List.mem_cons_of_mem _ hx)
    have e1 : cutR 0 e b (r :: t) = pieceR b 0 e r ++ cutR 0 e (b + r.2) t := rfl
    have e2 : itR (r :: t) = List.replicate r.2.toNat r.1 ++ itR t := rfl
    rw [e1, it_app, ih, e2, take_app, List.length_replicate, List.take_replicate, show (e - (b + r.2)).toNat = (e - b).toNat - r.2.toNat by omega]
    congr 1
    have es : sizeR b 0 e r.2 = (if b + r.2 < e then b + r.2 else e) - b := by
      unfold sizeR
      by_cases h0 : b > 0
      · rw [if_pos h0]
      · rw [if_neg h0, show b = 0 by omega]
    by_cases hs : 0 < sizeR b 0 e r.2
    · rw [show pieceR b 0 e r = [(r.1, sizeR b 0 e r.2)] from if_pos hs]
      show List.replicate (sizeR b 0 e r.2).toNat r.1 ++ [] = _
      rw [List.append_nil]
      congr 1
      rw [es] at hs ⊢
      split <;> omega
    · rw [show pieceR b 0 e r = [] from if_neg hs]
      rw [es] at hs
      rw [show min (e - b).toNat r.2.toNat = 0 by split at hs <;> omega]
      rfl
theorem len_it : ∀ (rs : List Run), (∀ r ∈ rs, 1 ≤ r.2) → ((itR rs).length : Int) = lenR rs
  | [], _ => rfl
  | r :: t, k => by
    have c1 := k r (List.mem_cons_self ..)
    have ih := len_it t fun x hx => k x (List.mem_cons_of_mem _ hx)
    have e2 : itR (r :: t) = List.replicate r.2.toNat r.1 ++ itR t := rfl
    rw [e2, List.length_append, List.length_replicate, lenR_cons]
    omega
/-! ### what is told of waiting items -/
def Uni (ws : List Run) : Prop := ∀ x ∈ ws, ∀ y ∈ ws, x.1 = y.1
theorem uni_plS {ws : List Run} {k : Str} {n : Nat} (h : Uni ws) : Uni (plS ws k n) := by
  cases ws with
  | nil =>
    intro x hx y hy
    rw [List.mem_singleton.mp (show x ∈ [(k, (n : Int))] from hx), List.mem_singleton.mp (show y ∈ [(k, (n : Int))] from hy)]
  | cons r t =>
    by_cases e : r.1 = k
    · rw [show plS (r :: t) k n = (r :: t) ++ [(k, (n : Int))] from if_pos e]
      have all : ∀ x ∈ (r :: t) ++ [(k, (n : Int))], x.1 = k := by
        intro x hx
        rcases List.mem_append.mp hx with z | z
        · rw [h x z r (List.mem_cons_self ..)]
          exact e
        · rw [List.mem_singleton.mp z]
      intro x hx y hy
      rw [all x hx, all y hy]
    · rw [show plS (r :: t) k n = t from if_neg e]
      exact fun x hx y hy => h x (List.mem_cons_of_mem _ hx) y (List.mem_cons_of_mem _ hy)
theorem told_plS {ws : List Run} {k : Str} {n : Nat} (h : Uni ws) : toldR (plS ws k n) = stepR (toldR ws) k 1 := by
  cases ws with
  | nil => rfl
  | cons r t =>
    by_cases e : r.1 = k
    · rw [show plS (r :: t) k n = (r :: t) ++ [(k, (n : Int))] from if_pos e]
      show some (r.1, (((r :: t) ++ [(k, (n : Int))]).length : Int)) = stepR (some (r.1, ((r :: t).length : Int))) k 1
      rw [step_same (r := (r.1, ((r :: t).length : Int))) e, List.length_append, e]
      show some (k, (((r :: t).length + 1 : Nat) : Int)) = some (k, ((r :: t).length : Int) + 1)
      rw [Int.natCast_add]
      rfl
    · rw [show plS (r :: t) k n = t from if_neg e]
      show toldR t = stepR (some (r.1, ((r :: t).length : Int))) k 1
      rw [step_other (r := (r.1, ((r :: t).length : Int))) e]
      cases t with
      | nil => rfl
      | cons x u =>
        have ex : x.1 = r.1 := h x (List.mem_cons_of_mem _ (List.mem_cons_self ..)) r (List.mem_cons_self ..)
        show some (x.1, ((x :: u).length : Int)) = if 0 < ((r :: x :: u).length : Int) - 1 then some (r.1, ((r :: x :: u).length : Int) - 1) else _
        rw [List.length_cons, List.length_cons, List.length_cons, if_pos (by omega), ex]
        congr 2
        omega
theorem told_plA : ∀ (l : List Str) (ws : List Run) (n : Nat), Uni ws → toldR (plA ws n l) = stI l (toldR ws)
  | [], _, _, _ => rfl
  | k :: t, ws, n, h => by
    show toldR (plA (plS ws k n) (n + 1) t) = stI t (stepR (toldR ws) k 1)
    rw [told_plA t _ _ (uni_plS h), told_plS h]
theorem uni_w0 (st : Option Run) : Uni (w0R st) := by
  cases st with
  | none => intro x hx; cases hx
  | some r =>
    intro x hx y hy
    rw [List.eq_of_mem_replicate hx, List.eq_of_mem_replicate hy]
theorem told_w0 {st : Option Run} (h : PosO st) : toldR (w0R st) = st := by
  cases st with
  | none => rfl
  | some r =>
    have r1 := h r rfl
    obtain ⟨n, hn⟩ : ∃ n : Nat, r.2.toNat = n + 1 := ⟨r.2.toNat - 1, by omega⟩
    show toldR (List.replicate r.2.toNat (r.1, (-1 : Int))) = some r
    rw [hn, List.replicate_succ]
    show some (r.1, (((r.1, (-1 : Int)) :: List.replicate n (r.1, (-1 : Int))).length : Int)) = some r
    rw [List.length_cons, List.length_replicate, show ((n + 1 : Nat) : Int) = r.2 by omega]
/-! ### all counts multiplied -/
def scO (t : Int) (st : Option Run) : Option Run := st.map fun r => (r.1, r.2 * t)
theorem lt_sc {a b t : Int} (ht : 0 < t) : a * t < b * t ↔ a < b :=
  ⟨fun h => by
    by_cases z : a < b
    · exact z
    · have := Int.mul_le_mul_of_nonneg_right (show b ≤ a by omega) (Int.le_of_lt ht)
      omega, fun h => Int.mul_lt_mul_of_pos_right h ht⟩
theorem size_sc {b s e c t : Int} (ht : 0 < t) : sizeR (b * t) (s * t) (e * t) (c * t) = sizeR b s e c * t := by
  unfold sizeR
  rw [← Int.add_mul, Int.sub_mul]
  congr 1
  · by_cases h : b + c < e
    · rw [if_pos h, if_pos ((lt_sc ht).mpr h)]
    · rw [if_neg h, if_neg fun z => h ((lt_sc ht).mp z)]
  · by_cases h : b > s
    · rw [if_pos h, if_pos ((lt_sc ht).mpr h)]
    · rw [if_neg h, if_neg fun z => h ((lt_sc ht).mp z)]
theorem pos_sc {a t : Int} (ht : 0 < t) : 0 < a * t ↔ 0 < a := by
  have := lt_sc (a := 0) (b := a) ht
  rw [Int.zero_mul] at this
  exact this
theorem piece_sc {b s e t : Int} {r : Run} (ht : 0 < t) : pieceR (b * t) (s * t) (e * t) (r.1, r.2 * t) = scR t (pieceR b s e r) := by
  unfold pieceR
  show (if 0 < sizeR (b * t) (s * t) (e * t) (r.2 * t) then [(r.1, sizeR (b * t) (s * t) (e * t) (r.2 * t))] else []) = _
  rw [size_sc ht]
  by_cases h : 0 < sizeR b s e r.2
  · rw [if_pos h, if_pos ((pos_sc ht).mpr h)]
    rfl
  · rw [if_neg h, if_neg fun z => h ((pos_sc ht).mp z)]
    rfl
theorem cut_sc {s e t : Int} (ht : 0 < t) : ∀ (rs : List Run) (b : Int), cutR (s * t) (e * t) (b * t) (scR t rs) = scR t (cutR s e b rs)
  | [], _ => rfl
  | r :: u, b => by
    have ih := cut_sc (s := s) (e := e) ht u (b + r.2)
    show pieceR (b * t) (s * t) (e * t) (r.1, r.2 * t) ++ cutR (s * t) (e * t) (b * t + r.2 * t) (scR t u) = scR t (pieceR b s e r ++ cutR s e (b + r.2) u)
    rw [← Int.add_mul, ih, piece_sc ht]
    unfold scR
    rw [List.map_append]
theorem step_sc {st : Option Run} {k : Str} {c t : Int} (ht : 0 < t) : stepR (scO t st) k (c * t) = scO t (stepR st k c) := by
  cases st with
  | none => rfl
  | some r =>
    show stepR (some (r.1, r.2 * t)) k (c * t) = _
    by_cases e : r.1 = k
    · rw [step_same (r := (r.1, r.2 * t)) e, step_same e]
      show some (k, r.2 * t + c * t) = some (k, (r.2 + c) * t)
      rw [Int.add_mul]
    · rw [step_other (r := (r.1, r.2 * t)) e, step_other e]
      show (if 0 < r.2 * t - c * t then some (r.1, r.2 * t - c * t) else if r.2 * t - c * t = 0 then none else some (k, -(r.2 * t - c * t))) = _
      rw [← Int.sub_mul]
      by_cases h : 0 < r.2 - c
      · rw [if_pos h, if_pos ((pos_sc ht).mpr h)]
        rfl
      · rw [if_neg h, if_neg fun z => h ((pos_sc ht).mp z)]
        by_cases h2 : r.2 - c = 0
        · rw [if_pos h2, h2, Int.zero_mul, if_pos rfl]
          rfl
        · have h3 : (r.2 - c) * t ≠ 0 := Int.mul_ne_zero h2 (by omega)
          rw [if_neg h2, if_neg h3]
          show some (k, -((r.2 - c) * t)) = some (k, -(r.2 - c) * t)
          rw [Int.neg_mul]
theorem st_sc {t : Int} (ht : 0 < t) : ∀ (rs : List Run) (st : Option Run), stR (scR t rs) (scO t st) = scO t (stR rs st)
  | [], _ => rfl
  | r :: u, st => by
    show stR (scR t u) (stepR (scO t st) r.1 (r.2 * t)) = scO t (stR u (stepR st r.1 r.2))
    rw [step_sc ht, st_sc ht u]
theorem len_sc {t : Int} : ∀ (rs : List Run), lenR (scR t rs) = lenR rs * t
  | [] => by
    show (0 : Int) = 0 * t
    rw [Int.zero_mul]
  | r :: u => by
    show lenR ((r.1, r.2 * t) :: scR t u) = _
    rw [lenR_cons, lenR_cons, len_sc u, Int.add_mul]
/-- the multiplied state at a multiplied moment -/
theorem whole_sc {t : Int} {rs : List Run} {st : Option Run} {p : Nat} (ht : 0 < t) (h : PosO st) (k : ∀ r ∈ rs, 1 ≤ r.2) :
    stR (cutR 0 ((p : Int) * t) 0 (scR t rs)) (scO t st) = scO t (toldR (plA (w0R st) 0 ((itR rs).take p))) := by
  have e := cut_sc (s := 0) (e := (p : Int)) ht rs 0
  rw [Int.zero_mul] at e
  rw [e, st_sc ht, told_plA _ _ _ (uni_w0 st), told_w0 h, st_items _ _ h cutR_pos, cut_items _ _ _ (Int.le_refl _) k, Int.sub_zero, Int.toNat_natCast]
end UP

set_option Elab.async false
set_option linter.all false
set_option maxRecDepth 100000
set_option maxHeartbeats 4000000
namespace UP
open PySem PySem.Spec PyProof.Rows L2
theorem room70 {A : Around} {k : Nat} (hr : Room k A) : A.units + 70 < cLine := by
  have := hr.un
  omega
theorem call_list_ofK {X : Cx} {K : PySem.W.Frag} (h : X.K = K) : CallR X (.type "list") (fun xs H Q => ∃ p ys, xs = [.ref p] ∧ (SqL K H p ys ∨ SqT K H p ys) ∧ ∀ l, H l = none → Q (.ref l) (upd H l (.lst ys))) := by
  subst h
  exact call_list_of
/-! ### data that a repr takes -/
structure Nice (w n : Nat) (d : PyData) : Prop where
  can : d.canLay0 = true
  dep : d.depth ≤ n
  sho : d.showable = true
  lea : d.leavesShort 100 = true
  wei : d.weight ≤ w
theorem Nice.mono {w w' n n' : Nat} {d : PyData} (h : Nice w n d) (h1 : w ≤ w') (h2 : n ≤ n') : Nice w' n' d := ⟨h.can, Nat.le_trans h.dep h2, h.sho, h.lea, Nat.le_trans h.wei h1⟩
theorem Nice.fits {w n : Nat} {d : PyData} (h : Nice w n d) (hw : w ≤ 150000) (hn : n ≤ 64) : d.showable = true ∧ SeqAt.shaped d = true ∧ d.shown.length ≤ sizeLine := by
  refine ⟨h.sho, ?_, ?_⟩
  · unfold SeqAt.shaped
    rw [h.can]
    have := h.dep
    exact decide_eq_true (by omega)
  · have h1 := PyData.shown_le 100 (by decide) d h.lea
    have h2 := h.wei
    have h3 : d.shown.length ≤ 16000000 := by omega
    exact Nat.le_trans h3 (by decide)
theorem nice_none : Nice 0 0 .none := ⟨rfl, Nat.le_refl _, rfl, rfl, Nat.le_refl _⟩
theorem nice_str {s : Str} (h : KindOk s) : Nice 8 0 (.str s) := by
  refine ⟨?_, Nat.le_refl _, rfl, ?_, h.2.1⟩
  · rw [PyData.canLay0]
    exact h.str
  · rw [PyData.leavesShort, List.all_eq_true]
    intro c hc
    have := h.2.2 c hc
    exact decide_eq_true (by omega)
theorem nice_int {i : Int} (h : i.natAbs < 10 ^ 60) : Nice 201 0 (.int i) := by
  have h2 : i.natAbs < 2 ^ 200 := Nat.lt_of_lt_of_le h (by decide)
  have h3 : i.natAbs.log2 < 200 := by
    by_cases z : i.natAbs = 0
    · rw [z]
      decide
    · exact (Nat.log2_lt z).mpr h2
  refine ⟨by rw [PyData.canLay0], Nat.le_refl _, ?_, ?_, ?_⟩
  · rw [PyData.showable]
    exact decide_eq_true (by omega)
  · rw [PyData.leavesShort]
    refine decide_eq_true ?_
    have e := int_text_length_le10 (k := 60) (by decide) h
    show (Str.ofString (toString i)).length ≤ 100
    rw [PySem.ofString_length]
    omega
  · rw [PyData.weight]
    split <;> omega
theorem nice_items {w n : Nat} : ∀ {ds : List PyData}, (∀ d ∈ ds, Nice w n d) → PyData.canLayAll0 ds = true ∧ PyData.depthAll ds ≤ n ∧ PyData.showableAll ds = true ∧ PyData.leavesShortAll 100 ds = true ∧ PyData.weightAll ds ≤ (w + 1) * ds.length
  | [], _ => ⟨rfl, Nat.zero_le _, rfl, rfl, Nat.zero_le _⟩
  | d :: t, h => by
    have h1 := h d (List.mem_cons_self ..)
    obtain ⟨a, b, c, e, f⟩ := nice_items (ds := t) fun x hx => h x (List.mem_cons_of_mem _ hx)
    refine ⟨?_, ?_, ?_, ?_, ?_⟩
    · rw [PyData.canLayAll0, h1.can, a]
      rfl
    · rw [PyData.depthAll]
      exact Nat.max_le.mpr ⟨h1.dep, b⟩
    · rw [PyData.showableAll, h1.sho, c]
      rfl
    · rw [PyData.leavesShortAll, h1.lea, e]
      rfl
    · have h2 := h1.wei
      rw [PyData.weightAll, List.length_cons, Nat.mul_succ]
      omega
theorem nice_list {w n : Nat} {ds : List PyData} (h : ∀ d ∈ ds, Nice w n d) : Nice ((w + 1) * ds.length) (n + 1) (.list ds) := by
  obtain ⟨a, b, c, e, f⟩ := nice_items h
  exact ⟨by rw [PyData.canLay0]; exact a, by rw [PyData.depth]; omega, by rw [PyData.showable]; exact c, by rw [PyData.leavesShort]; exact e, by rw [PyData.weight]; exact f⟩
theorem nice_tup {w n : Nat} {ds : List PyData} (h : ∀ d ∈ ds, Nice w n d) : Nice ((w + 1) * ds.length) (n + 1) (.tuple ds) := by
  obtain ⟨a, b, c, e, f⟩ := nice_items h
  exact ⟨by rw [PyData.canLay0]; exact a, by rw [PyData.depth]; omega, by rw [PyData.showable]; exact c, by rw [PyData.leavesShort]; exact e, by rw [PyData.weight]; exact f⟩
/-- v stands for d at H and at every heap that keeps H -/
def DpS (K : PySem.W.Frag) (H : Hp) (v : V) (d : PyData) : Prop := ∀ H', Same H H' → Dp K H' v d
theorem DpS.same {K : PySem.W.Frag} {H H' : Hp} {v : V} {d : PyData} (s : Same H H') (h : DpS K H v d) : DpS K H' v d := fun H2 s2 => h H2 (s.trans s2)
theorem dps_all {K : PySem.W.Frag} {H : Hp} {F : PyData → Prop} : ∀ {xs : List V}, (∀ x ∈ xs, ∃ d, DpS K H x d ∧ F d) → ∃ ds, (∀ H', Same H H' → DpAll K H' xs ds) ∧ ds.length = xs.length ∧ ∀ d ∈ ds, F d
  | [], _ => ⟨[], fun _ _ => .nil, rfl, fun d h => by cases h⟩
  | x :: t, h => by
    obtain ⟨d, h1, h2⟩ := h x (List.mem_cons_self ..)
    obtain ⟨ds, a, b, c⟩ := dps_all (xs := t) fun y hy => h y (List.mem_cons_of_mem _ hy)
    refine ⟨d :: ds, fun H' s => .cons (h1 H' s) (a H' s), congrArg Nat.succ b, fun z hz => ?_⟩
    rcases List.mem_cons.mp hz with e | e
    · rw [e]
      exact h2
    · exact c z e
theorem dps_seq {K : PySem.W.Frag} {H : Hp} {a : Addr} {xs : List V} {w n : Nat} (hx : Sq2 H a xs) (h : ∀ x ∈ xs, ∃ d, DpS K H x d ∧ Nice w n d) : ∃ d, DpS K H (.ref a) d ∧ Nice ((w + 1) * xs.length) (n + 1) d := by
  obtain ⟨ds, h1, h2, h3⟩ := dps_all h
  rcases hx with z | z
  · exact ⟨.list ds, fun H' s => .lst (.of (s _ _ z)) (h1 H' s), by rw [← h2]; exact nice_list h3⟩
  · exact ⟨.tuple ds, fun H' s => .tup (.of (s _ _ z)) (h1 H' s), by rw [← h2]; exact nice_tup h3⟩
theorem dps_run {K : PySem.W.Frag} {H : Hp} {v : V} {r : Run} (h : RunG H v r) (k : KindOk r.1) (c : r.2.natAbs < 10 ^ 60) : ∃ d, DpS K H v d ∧ Nice 404 1 d := by
  obtain ⟨t, rfl, h⟩ := h
  have := dps_seq (K := K) (w := 201) (n := 0) h fun x hx => by
    rcases List.mem_cons.mp hx with e | e
    · rw [e]
      exact ⟨.str r.1, fun _ _ => .str _, (nice_str k).mono (by decide) (Nat.le_refl _)⟩
    · rw [List.mem_singleton.mp e]
      exact ⟨.int r.2, fun _ _ => .int _, nice_int c⟩
  exact this
theorem dps_runs {K : PySem.W.Frag} {H : Hp} {v : V} {rs : List Run} (h : RunsG H v rs) (k : ∀ r ∈ rs, KindOk r.1 ∧ r.2.natAbs < 10 ^ 60) (l : rs.length ≤ 100) : ∃ d, DpS K H v d ∧ Nice 41000 2 d := by
  obtain ⟨a, xs, rfl, hx, hp⟩ := h
  have lx : xs.length = rs.length := Paired.len hp
  obtain ⟨d, h1, h2⟩ := dps_seq (K := K) (w := 404) (n := 1) hx fun x hx => by
    obtain ⟨i, hi, e⟩ := List.mem_iff_getElem.mp hx
    obtain ⟨r, er, hr⟩ := Paired.at hp (List.getElem?_eq_getElem hi)
    rw [e] at hr
    have := k r (List.mem_of_getElem? er)
    exact dps_run hr this.1 this.2
  exact ⟨d, h1, h2.mono (by rw [lx]; omega) (Nat.le_refl _)⟩
theorem dps_st {K : PySem.W.Frag} {H : Hp} {v : V} {st : Option Run} (h : StG H v st) (k : ∀ r, st = some r → KindOk r.1 ∧ r.2.natAbs < 10 ^ 60) : ∃ d, DpS K H v d ∧ Nice 41000 2 d := by
  cases st with
  | none =>
    cases h
    exact ⟨.none, fun _ _ => .non, nice_none.mono (by decide) (by decide)⟩
  | some r =>
    obtain ⟨d, h1, h2⟩ := dps_run (K := K) h (k r rfl).1 (k r rfl).2
    exact ⟨d, h1, h2.mono (by decide) (by decide)⟩
theorem dps_two {K : PySem.W.Frag} {H : Hp} {a : Addr} {x y : V} (h : H a = some (.lst [x, y])) (hx : ∃ d, DpS K H x d ∧ Nice 41000 2 d) (hy : ∃ d, DpS K H y d ∧ Nice 41000 2 d) : ∃ d, DpS K H (.ref a) d ∧ Nice 82002 3 d := by
  have := dps_seq (K := K) (a := a) (xs := [x, y]) (w := 41000) (n := 2) (.inl h) fun z hz => by
    rcases List.mem_cons.mp hz with e | e
    · rw [e]
      exact hx
    · rw [List.mem_singleton.mp e]
      exact hy
  exact this
/-! ### dressed and undressed -/
def dP (r : Run) : PyData := .list [.str r.1, .int r.2]
def dSq (rs : List Run) : PyData := .list (rs.map dP)
def dSt : Option Run → PyData
  | none => .none
  | some r => dP r
theorem sim_pair {N : Addr → Prop} {H : Hp} {n : Nat} (r : Run) : Paired (Sim N H n) [V.str r.1, V.int r.2] [PyData.str r.1, PyData.int r.2] := .cons (Sim.dsc (.inr (.inr (.inr ⟨_, rfl, rfl⟩)))) (.cons (Sim.dsc (.inr (.inr (.inl ⟨_, rfl, rfl⟩)))) .nil)
theorem sim_run {H : Hp} {sp : Addr} {v : V} {r : Run} {n : Nat} (z : Spr H sp) (h : RunV H v r) : Sim (· ≠ sp) H (n + 1) v (dP r) := by
  obtain ⟨t, rfl, h⟩ := h
  obtain ⟨_, _, _, hs, _⟩ := z
  exact .inr ⟨t, _, _, rfl, ne_of h hs (by intro q; cases q), .inr h, rfl, sim_pair r, Nat.le_of_ble_eq_true rfl⟩
theorem sim_seq {H : Hp} {sp a : Addr} {rs : List Run} (z : Spr H sp) (h : Runs H a rs) (l : rs.length ≤ 1000) : Sim (· ≠ sp) H 2 (.ref a) (dSq rs) := by
  have na := Runs.ne z h
  obtain ⟨xs, hx, hp⟩ := h
  refine .inr ⟨a, xs, _, rfl, na, .inl hx, rfl, ?_, by rw [List.length_map]; exact l⟩
  have gen : ∀ {xs : List V} {rs : List Run}, Paired (RunV H) xs rs → Paired (Sim (· ≠ sp) H 1) xs (rs.map dP) := by
    intro xs rs h
    induction h with
    | nil => exact .nil
    | cons h _ ih => exact .cons (sim_run z h) ih
  exact gen hp
theorem sim_st {H : Hp} {sp : Addr} {v : V} {st : Option Run} (z : Spr H sp) (h : StV H v st) : Sim (· ≠ sp) H 2 v (dSt st) := by
  cases st with
  | none =>
    cases h
    exact .inl (.inl ⟨rfl, rfl⟩)
  | some r => exact sim_run z h
theorem sim_one {N : Addr → Prop} {H : Hp} {n : Nat} {v : V} {r : Run} (h : Sim N H (n + 1) v (dP r)) : RunG H v r := by
  rcases h with h | ⟨a, xs, ds, rfl, _, hx, e, p, _⟩
  · exact (dsc_lst h).elim
  · cases e
    have scal : ∀ {m : Nat} {x : V} {s : Str}, Sim N H m x (.str s) → x = .str s := by
      intro m x s h
      have h : Dsc x (.str s) := by
        cases m with
        | zero => exact h
        | succ m =>
          rcases h with h | ⟨_, _, _, _, _, _, e, _⟩
          · exact h
          · cases e
      rcases h with ⟨_, e⟩ | ⟨_, _, e⟩ | ⟨_, _, e⟩ | ⟨y, e1, e⟩ <;> cases e
      exact e1
    have scai : ∀ {m : Nat} {x : V} {s : Int}, Sim N H m x (.int s) → x = .int s := by
      intro m x s h
      have h : Dsc x (.int s) := by
        cases m with
        | zero => exact h
        | succ m =>
          rcases h with h | ⟨_, _, _, _, _, _, e, _⟩
          · exact h
          · cases e
      rcases h with ⟨_, e⟩ | ⟨_, _, e⟩ | ⟨y, e1, e⟩ | ⟨_, _, e⟩ <;> cases e
      exact e1
    cases p with
    | cons h1 p1 =>
      cases p1 with
      | cons h2 p2 =>
        cases p2
        rw [scal h1, scai h2] at hx
        exact ⟨a, rfl, hx⟩
theorem sim_all {N : Addr → Prop} {H : Hp} : ∀ (rs : List Run) (xs : List V), Paired (Sim N H 1) xs (rs.map dP) → Paired (RunG H) xs rs
  | [], xs, h => by
    cases h
    exact .nil
  | r :: t, xs, h => by
    cases h with
    | cons h1 h2 => exact .cons (sim_one h1) (sim_all t _ h2)
theorem sim_runs {N : Addr → Prop} {H : Hp} {v : V} {rs : List Run} (h : Sim N H 2 v (dSq rs)) : RunsG H v rs := by
  rcases h with h | ⟨a, xs, ds, rfl, _, hx, e, p, _⟩
  · exact (dsc_lst h).elim
  · cases e
    refine ⟨a, xs, rfl, hx, ?_⟩
    exact sim_all rs xs p
theorem sim_stg {N : Addr → Prop} {H : Hp} {v : V} {st : Option Run} (h : Sim N H 2 v (dSt st)) : StG H v st := by
  cases st with
  | none =>
    rcases h with h | ⟨_, _, _, _, _, _, e, _⟩
    · rcases h with ⟨e, _⟩ | ⟨_, _, e⟩ | ⟨_, _, e⟩ | ⟨_, _, e⟩
      · exact e
      all_goals cases e
    · cases e
  | some r => exact sim_one h
/-! ### one by one -/
theorem at_moment {rs : List Run} {st : Option Run} {m : Nat} (h : PosO st) (k : ∀ r ∈ rs, 1 ≤ r.2) : stR (cutR 0 (m : Int) 0 rs) st = toldR (plA (w0R st) 0 ((itR rs).take m)) := by
  rw [told_plA _ _ _ (uni_w0 st), told_w0 h, st_items _ _ h cutR_pos, cut_items _ _ _ (Int.le_refl _) k, Int.sub_zero, Int.toNat_natCast]
theorem at_end {rs : List Run} {st : Option Run} (h : PosO st) (k : ∀ r ∈ rs, 1 ≤ r.2) : stR rs st = toldR (plA (w0R st) 0 (itR rs)) := by
  rw [told_plA _ _ _ (uni_w0 st), told_w0 h, st_items _ _ h k]
theorem plMs_get (ws : List Run) (ks : List Str) {n : Nat} (h : n ≤ ks.length) : (plMs ws ks)[n]? = some (plA ws 0 (ks.take n)) := by
  unfold plMs
  rw [List.getElem?_map, List.getElem?_range (by omega)]
  rfl
def dO : Option Run → PyData
  | none => .none
  | some r => dRun r
theorem dt_st {H : Hp} {v : V} {st : Option Run} {n : Nat} (h : StV H v st) : Dt H (n + 1) v (dO st) := by
  cases st with
  | none =>
    cases h
    exact .inl (.inl ⟨rfl, rfl⟩)
  | some r =>
    obtain ⟨t, rfl, h⟩ := h
    refine .inr (.inr ⟨t, _, _, rfl, h, rfl, .cons ?_ (.cons ?_ .nil), Nat.le_of_ble_eq_true rfl⟩)
    · cases n with
      | zero => exact .inr (.inr (.inr ⟨_, rfl, rfl⟩))
      | succ m => exact .inl (.inr (.inr (.inr ⟨_, rfl, rfl⟩)))
    · cases n with
      | zero => exact .inr (.inr (.inl ⟨_, rfl, rfl⟩))
      | succ m => exact .inl (.inr (.inr (.inl ⟨_, rfl, rfl⟩)))
theorem w0_len {st : Option Run} (h : ∀ r, st = some r → r.2 ≤ 1000) : (w0R st).length ≤ 1000 := by
  cases st with
  | none => exact Nat.zero_le _
  | some r =>
    have := h r rfl
    show (List.replicate r.2.toNat (r.1, (-1 : Int))).length ≤ 1000
    rw [List.length_replicate]
    omega
theorem w0_kinds {st : Option Run} (h : StOk st) : ∀ r ∈ w0R st, KindOk r.1 := by
  cases st with
  | none => intro r h; cases h
  | some x =>
    intro r hr
    rw [List.eq_of_mem_replicate hr]
    exact (h x rfl).1
theorem it_kinds {rs : List Run} (h : ∀ r ∈ rs, KindOk r.1) : ∀ k ∈ itR rs, KindOk k := by
  intro k hk
  obtain ⟨r, h1, h2⟩ := List.mem_flatMap.mp hk
  rw [List.eq_of_mem_replicate h2]
  exact h r h1
end UP

set_option Elab.async false
set_option linter.all false
set_option maxRecDepth 100000
set_option maxHeartbeats 4000000
namespace UP
open PySem PySem.Spec PyProof.Rows L2
abbrev Rg := Int × Int
/-! ### ranges without their first positions -/
def rmR (p : Rg) (n : Int) : Int := if p.2 - p.1 + 1 < n then p.2 - p.1 + 1 else n
def wfP (p : Rg) (n : Int) : List Rg := if p.1 + rmR p n ≤ p.2 then [(p.1 + rmR p n, p.2)] else []
def wfR : List Rg → Int → List Rg
  | [], _ => []
  | p :: t, n => wfP p n ++ wfR t (n - rmR p n)
/-- the number that is left to be removed behind some ranges -/
def wfN : List Rg → Int → Int
  | [], n => n
  | p :: t, n => wfN t (n - rmR p n)
theorem wfN_snoc : ∀ (l : List Rg) (p : Rg) (n : Int), wfN (l ++ [p]) n = wfN l n - rmR p (wfN l n)
  | [], _, _ => rfl
  | x :: t, p, n => wfN_snoc t p (n - rmR x n)
theorem wfR_snoc : ∀ (l : List Rg) (p : Rg) (n : Int), wfR (l ++ [p]) n = wfR l n ++ wfP p (wfN l n)
  | [], p, n => by
    show wfP p n ++ [] = [] ++ wfP p n
    rw [List.append_nil, List.nil_append]
  | x :: t, p, n => by
    show wfP x n ++ wfR (t ++ [p]) (n - rmR x n) = (wfP x n ++ wfR t (n - rmR x n)) ++ wfP p (wfN t (n - rmR x n))
    rw [wfR_snoc t, List.append_assoc]
def adP (st : Option Run) (b : Int) (r : Run) : List Rg := if leavR st r.1 r.2 < r.2 then [(b + leavR st r.1 r.2, b + r.2 - 1)] else []
def waR : List Run → Option Run → Int → List Rg → List Rg
  | [], _, _, R => R
  | r :: t, st, b, R => waR t (stepR st r.1 r.2) (b + r.2) (wfR R (leavR st r.1 r.2) ++ adP st b r)
theorem waR_snoc : ∀ (l : List Run) (r : Run) (st : Option Run) (b : Int) (R : List Rg), waR (l ++ [r]) st b R = wfR (waR l st b R) (leavR (stR l st) r.1 r.2) ++ adP (stR l st) (b + lenR l) r
  | [], r, st, b, R => by
    show wfR R (leavR st r.1 r.2) ++ adP st b r = wfR R (leavR st r.1 r.2) ++ adP st (b + lenR []) r
    rw [lenR_nil, Int.add_zero]
  | x :: t, r, st, b, R => by
    show waR (t ++ [r]) (stepR st x.1 x.2) (b + x.2) (wfR R (leavR st x.1 x.2) ++ adP st b x) = wfR (waR t (stepR st x.1 x.2) (b + x.2) (wfR R (leavR st x.1 x.2) ++ adP st b x)) (leavR (stR (x :: t) st) r.1 r.2) ++ adP (stR (x :: t) st) (b + lenR (x :: t)) r
    rw [waR_snoc t, stR_cons, lenR_cons, Int.add_assoc]
/-! ### all counts multiplied -/
def scP (t : Int) (R : List Rg) : List Rg := R.map fun p => (p.1 * t, p.2 * t + t - 1)
theorem le_sc {a b t : Int} (ht : 0 < t) : a * t ≤ b * t ↔ a ≤ b := by
  have := lt_sc (a := b) (b := a) ht
  exact ⟨fun z => by
    by_cases q : b < a
    · have := this.mpr q
      omega
    · omega, fun z => Int.mul_le_mul_of_nonneg_right z (by omega)⟩
theorem last_sc {a b t : Int} (ht : 0 < t) : a * t ≤ b * t + t - 1 ↔ a ≤ b := by
  have e : (b + 1) * t = b * t + t := by rw [Int.add_mul, Int.one_mul]
  have := lt_sc (a := a) (b := b + 1) ht
  rw [e] at this
  exact ⟨fun z => by have := this.mp (by omega); omega, fun z => by have := this.mpr (by omega); omega⟩
theorem rm_sc {p : Rg} {n t : Int} (ht : 0 < t) : rmR (p.1 * t, p.2 * t + t - 1) (n * t) = rmR p n * t := by
  unfold rmR
  have e : (p.2 * t + t - 1) - p.1 * t + 1 = (p.2 - p.1 + 1) * t := by
    rw [Int.add_mul, Int.sub_mul, Int.one_mul]
    omega
  show (if (p.2 * t + t - 1) - p.1 * t + 1 < n * t then (p.2 * t + t - 1) - p.1 * t + 1 else n * t) = _
  rw [e]
  by_cases g : p.2 - p.1 + 1 < n
  · rw [if_pos g, if_pos ((lt_sc ht).mpr g)]
  · rw [if_neg g, if_neg fun z => g ((lt_sc ht).mp z)]
theorem wfP_sc {p : Rg} {n t : Int} (ht : 0 < t) : wfP (p.1 * t, p.2 * t + t - 1) (n * t) = scP t (wfP p n) := by
  unfold wfP
  rw [rm_sc ht]
  show (if p.1 * t + rmR p n * t ≤ p.2 * t + t - 1 then [(p.1 * t + rmR p n * t, p.2 * t + t - 1)] else []) = _
  rw [← Int.add_mul]
  by_cases g : p.1 + rmR p n ≤ p.2
  · rw [if_pos g, if_pos ((last_sc ht).mpr g)]
    rfl
  · rw [if_neg g, if_neg fun z => g ((last_sc ht).mp z)]
    rfl
theorem wfR_sc {t : Int} (ht : 0 < t) : ∀ (R : List Rg) (n : Int), wfR (scP t R) (n * t) = scP t (wfR R n)
  | [], _ => rfl
  | p :: u, n => by
    show wfP (p.1 * t, p.2 * t + t - 1) (n * t) ++ wfR (scP t u) (n * t - rmR (p.1 * t, p.2 * t + t - 1) (n * t)) = scP t (wfP p n ++ wfR u (n - rmR p n))
    rw [wfP_sc ht, rm_sc ht, ← Int.sub_mul, wfR_sc ht u]
    unfold scP
    rw [List.map_append]
theorem leav_sc {st : Option Run} {k : Str} {c t : Int} (ht : 0 < t) : leavR (scO t st) k (c * t) = leavR st k c * t := by
  cases st with
  | none =>
    show (0 : Int) = 0 * t
    rw [Int.zero_mul]
  | some x =>
    show (if x.1 = k then 0 else if c * t < x.2 * t then c * t else x.2 * t) = (if x.1 = k then 0 else if c < x.2 then c else x.2) * t
    by_cases e : x.1 = k
    · rw [if_pos e, if_pos e, Int.zero_mul]
    · rw [if_neg e, if_neg e]
      by_cases g : c < x.2
      · rw [if_pos g, if_pos ((lt_sc ht).mpr g)]
      · rw [if_neg g, if_neg fun z => g ((lt_sc ht).mp z)]
theorem adP_sc {st : Option Run} {b t : Int} {r : Run} (ht : 0 < t) : adP (scO t st) (b * t) (r.1, r.2 * t) = scP t (adP st b r) := by
  unfold adP
  rw [leav_sc ht]
  by_cases g : leavR st r.1 r.2 < r.2
  · rw [if_pos g, if_pos ((lt_sc ht).mpr g)]
    show [(b * t + leavR st r.1 r.2 * t, b * t + r.2 * t - 1)] = [((b + leavR st r.1 r.2) * t, (b + r.2 - 1) * t + t - 1)]
    rw [← Int.add_mul, ← Int.add_mul, Int.sub_mul, Int.one_mul]
    congr 2
    omega
  · rw [if_neg g, if_neg fun z => g ((lt_sc ht).mp z)]
    rfl
theorem waR_sc {t : Int} (ht : 0 < t) : ∀ (rs : List Run) (st : Option Run) (b : Int) (R : List Rg), waR (scR t rs) (scO t st) (b * t) (scP t R) = scP t (waR rs st b R)
  | [], _, _, _ => rfl
  | r :: u, st, b, R => by
    show waR (scR t u) (stepR (scO t st) r.1 (r.2 * t)) (b * t + r.2 * t) (wfR (scP t R) (leavR (scO t st) r.1 (r.2 * t)) ++ adP (scO t st) (b * t) (r.1, r.2 * t)) = scP t (waR u (stepR st r.1 r.2) (b + r.2) (wfR R (leavR st r.1 r.2) ++ adP st b r))
    rw [step_sc ht, ← Int.add_mul, leav_sc ht, wfR_sc ht, adP_sc ht]
    have e : scP t (wfR R (leavR st r.1 r.2)) ++ scP t (adP st b r) = scP t (wfR R (leavR st r.1 r.2) ++ adP st b r) := by
      unfold scP
      rw [List.map_append]
    rw [e, waR_sc ht u]
/-! ### the ranges of positions -/
def rgS (t : Int) (F : List Rg) (p : Int) : List Rg := match F.getLast? with
  | none => F ++ [(p * t, p * t + t - 1)]
  | some l => if l.2 = p * t - 1 then F.dropLast ++ [(l.1, p * t + t - 1)] else F ++ [(p * t, p * t + t - 1)]
def rgR (t : Int) (ps : List Int) : List Rg := ps.foldl (rgS t) []
theorem rgS_sc {t : Int} (ht : 0 < t) (F : List Rg) (p : Int) : rgS t (scP t F) p = scP t (rgS 1 F p) := by
  unfold rgS
  have eg : (scP t F).getLast? = F.getLast?.map fun p => (p.1 * t, p.2 * t + t - 1) := by
    unfold scP
    rw [List.getLast?_map]
  rw [eg]
  cases F.getLast? with
  | none =>
    show scP t F ++ [(p * t, p * t + t - 1)] = scP t (F ++ [(p * 1, p * 1 + 1 - 1)])
    unfold scP
    rw [List.map_append, Int.mul_one, show p + 1 - 1 = p by omega]
    rfl
  | some l =>
    show (if l.2 * t + t - 1 = p * t - 1 then (scP t F).dropLast ++ [(l.1 * t, p * t + t - 1)] else scP t F ++ [(p * t, p * t + t - 1)]) = scP t (if l.2 = p * 1 - 1 then F.dropLast ++ [(l.1, p * 1 + 1 - 1)] else F ++ [(p * 1, p * 1 + 1 - 1)])
    rw [Int.mul_one, show p + 1 - 1 = p by omega]
    have iff : l.2 * t + t - 1 = p * t - 1 ↔ l.2 = p - 1 := by
      have e : (l.2 + 1) * t = l.2 * t + t := by rw [Int.add_mul, Int.one_mul]
      constructor
      · intro z
        have a := (le_sc (a := l.2 + 1) (b := p) ht).mp (by omega)
        have b := (le_sc (a := p) (b := l.2 + 1) ht).mp (by omega)
        omega
      · intro z
        have : (l.2 + 1) * t = p * t := by rw [show l.2 + 1 = p by omega]
        omega
    by_cases g : l.2 = p - 1
    · rw [if_pos g, if_pos (iff.mpr g)]
      unfold scP
      rw [List.map_append, List.map_dropLast]
      rfl
    · rw [if_neg g, if_neg fun z => g (iff.mp z)]
      unfold scP
      rw [List.map_append]
      rfl
theorem rgR_sc {t : Int} (ht : 0 < t) (ps : List Int) : rgR t ps = scP t (rgR 1 ps) := by
  unfold rgR
  have gen : ∀ (ps : List Int) (F : List Rg), ps.foldl (rgS t) (scP t F) = scP t (ps.foldl (rgS 1) F) := by
    intro ps
    induction ps with
    | nil => intro F; rfl
    | cons p u ih =>
      intro F
      show u.foldl (rgS t) (rgS t (scP t F) p) = scP t (u.foldl (rgS 1) (rgS 1 F p))
      rw [rgS_sc ht, ih]
  exact gen ps []
/-! ### positions -/
def posL (a : Int) : Nat → List Int
  | 0 => []
  | n + 1 => a :: posL (a + 1) n
theorem posL_app : ∀ (m n : Nat) (a : Int), posL a (m + n) = posL a m ++ posL (a + (m : Int)) n
  | 0, n, a => by
    rw [Nat.zero_add, show a + ((0 : Nat) : Int) = a by omega]
    rfl
  | m + 1, n, a => by
    rw [show m + 1 + n = (m + n) + 1 by omega]
    show a :: posL (a + 1) (m + n) = a :: (posL (a + 1) m ++ posL (a + ((m + 1 : Nat) : Int)) n)
    rw [posL_app m n, show a + 1 + (m : Int) = a + ((m + 1 : Nat) : Int) by omega]
theorem posL_len : ∀ (n : Nat) (a : Int), (posL a n).length = n
  | 0, _ => rfl
  | n + 1, a => congrArg Nat.succ (posL_len n _)
theorem posL_drop (a : Int) (n k : Nat) (h : k ≤ n) : (posL a n).drop k = posL (a + (k : Int)) (n - k) := by
  have e : n = k + (n - k) := by omega
  rw [e, posL_app, List.drop_append_of_le_length (by rw [posL_len]; exact Nat.le_refl _), List.drop_of_length_le (by rw [posL_len]; exact Nat.le_refl _), List.nil_append, show k + (n - k) - k = n - k by omega]
def flP (p : Rg) : List Int := posL p.1 (p.2 - p.1 + 1).toNat
def flR (R : List Rg) : List Int := R.flatMap flP
theorem flR_cons (p : Rg) (t : List Rg) : flR (p :: t) = flP p ++ flR t := rfl
theorem flR_app (R S : List Rg) : flR (R ++ S) = flR R ++ flR S := List.flatMap_append ..
/-- ascending, with gaps, below b -/
def Gd : List Rg → Int → Prop
  | [], _ => True
  | p :: t, b => p.1 ≤ p.2 ∧ p.2 < b ∧ (∀ x, t.head? = some x → p.2 + 1 < x.1) ∧ Gd t b
theorem Gd.mono {b b' : Int} (h : b ≤ b') : ∀ {R : List Rg}, Gd R b → Gd R b'
  | [], _ => trivial
  | p :: t, g => ⟨g.1, by have := g.2.1; omega, g.2.2.1, Gd.mono h g.2.2.2⟩
theorem Gd.last {b : Int} : ∀ {R : List Rg}, Gd R b → ∀ l, R.getLast? = some l → l.2 < b
  | [], _, l, h => by cases h
  | [p], g, l, h => by
    have e : p = l := Option.some.inj h
    rw [← e]
    exact g.2.1
  | p :: q :: t, g, l, h => by
    rw [List.getLast?_cons_cons] at h
    exact Gd.last g.2.2.2 l h
theorem Gd.snoc {b : Int} {p : Rg} : ∀ {R : List Rg}, Gd R b → p.1 ≤ p.2 → p.2 < b → (∀ l, R.getLast? = some l → l.2 + 1 < p.1) → Gd (R ++ [p]) b
  | [], _, h1, h2, _ => ⟨h1, h2, (fun x h => by cases h), trivial⟩
  | [q], g, h1, h2, h3 => ⟨g.1, g.2.1, (fun x h => by have e : p = x := Option.some.inj h; rw [← e]; exact h3 q rfl), h1, h2, (fun x h => by cases h), trivial⟩
  | q :: r :: t, g, h1, h2, h3 => by
    have ih := Gd.snoc (R := r :: t) g.2.2.2 h1 h2 (fun l hl => h3 l (by rw [List.getLast?_cons_cons]; exact hl))
    exact ⟨g.1, g.2.1, (fun x h => g.2.2.1 x h), ih⟩
theorem rm_le {p : Rg} {n : Int} (h : p.1 ≤ p.2) (hn : 0 ≤ n) : 0 ≤ rmR p n ∧ rmR p n ≤ n ∧ rmR p n ≤ p.2 - p.1 + 1 ∧ (rmR p n < p.2 - p.1 + 1 → rmR p n = n) := by
  unfold rmR
  split <;> omega
theorem wf_zero {b : Int} : ∀ {R : List Rg}, Gd R b → wfR R 0 = R
  | [], _ => rfl
  | p :: t, g => by
    have h := rm_le (p := p) (n := 0) g.1 (Int.le_refl _)
    have e : rmR p 0 = 0 := by omega
    show wfP p 0 ++ wfR t (0 - rmR p 0) = p :: t
    unfold wfP
    rw [e, Int.sub_zero, Int.add_zero, if_pos g.1, wf_zero g.2.2.2]
    rfl
theorem wf_flat {b : Int} : ∀ {R : List Rg} {n : Int}, Gd R b → 0 ≤ n → flR (wfR R n) = (flR R).drop n.toNat
  | [], n, _, _ => by
    show ([] : List Int) = ([] : List Int).drop _
    rw [List.drop_nil]
  | p :: t, n, g, hn => by
    have g1 := g.1
    have h := rm_le (p := p) g1 hn
    have ih := wf_flat (n := n - rmR p n) g.2.2.2 (by omega)
    show flR (wfP p n ++ wfR t (n - rmR p n)) = (flP p ++ flR t).drop n.toNat
    rw [flR_app, ih, List.drop_append]
    have lp : (flP p).length = (p.2 - p.1 + 1).toNat := posL_len _ _
    rw [lp]
    by_cases c : p.1 + rmR p n ≤ p.2
    · have e : rmR p n = n := h.2.2.2 (by omega)
      have e1 : wfP p n = [(p.1 + rmR p n, p.2)] := if_pos c
      rw [e1, e, show n - n = 0 by omega, show n.toNat - (p.2 - p.1 + 1).toNat = 0 by omega]
      congr 1
      show posL (p.1 + n) (p.2 - (p.1 + n) + 1).toNat ++ [] = (posL p.1 (p.2 - p.1 + 1).toNat).drop n.toNat
      rw [List.append_nil, posL_drop _ _ _ (by omega), show (n.toNat : Int) = n by omega, show (p.2 - (p.1 + n) + 1).toNat = (p.2 - p.1 + 1).toNat - n.toNat by omega]
    · have e1 : wfP p n = [] := if_neg c
      rw [e1, show (n - rmR p n).toNat = n.toNat - (p.2 - p.1 + 1).toNat by omega]
      congr 1
      show [] = (posL p.1 (p.2 - p.1 + 1).toNat).drop n.toNat
      rw [List.drop_of_length_le (by rw [posL_len]; omega)]
theorem wf_good {b : Int} : ∀ {R : List Rg} {n : Int}, Gd R b → 0 ≤ n → Gd (wfR R n) b
  | [], _, _, _ => trivial
  | p :: t, n, g, hn => by
    have g1 := g.1
    have h := rm_le (p := p) g1 hn
    show Gd (wfP p n ++ wfR t (n - rmR p n)) b
    by_cases c : p.1 + rmR p n ≤ p.2
    · have e : rmR p n = n := h.2.2.2 (by omega)
      have e1 : wfP p n = [(p.1 + rmR p n, p.2)] := if_pos c
      rw [e1, show n - rmR p n = 0 by omega, wf_zero g.2.2.2]
      exact ⟨c, g.2.1, g.2.2.1, g.2.2.2⟩
    · have e1 : wfP p n = [] := if_neg c
      rw [e1]
      exact wf_good g.2.2.2 (by omega)
theorem wf_lastlt {b : Int} {R : List Rg} {n : Int} (g : Gd R b) (hn : 0 ≤ n) : ∀ l, (wfR R n).getLast? = some l → l.2 < b := fun l h => Gd.last (wf_good g hn) l h
/-! ### ranges of positions are the ranges -/
theorem rg_more : ∀ (k : Nat) (F : List Rg) (a q : Int), (posL (q + 1) k).foldl (rgS 1) (F ++ [(a, q)]) = F ++ [(a, q + (k : Int))]
  | 0, F, a, q => by
    rw [show q + ((0 : Nat) : Int) = q by omega]
    rfl
  | k + 1, F, a, q => by
    show (posL (q + 1 + 1) k).foldl (rgS 1) (rgS 1 (F ++ [(a, q)]) (q + 1)) = _
    have e : rgS 1 (F ++ [(a, q)]) (q + 1) = F ++ [(a, q + 1)] := by
      unfold rgS
      rw [List.getLast?_concat]
      show (if q = (q + 1) * 1 - 1 then (F ++ [(a, q)]).dropLast ++ [(a, (q + 1) * 1 + 1 - 1)] else _) = _
      rw [if_pos (by omega), List.dropLast_concat, Int.mul_one, show q + 1 + 1 - 1 = q + 1 by omega]
    rw [e, rg_more k F a (q + 1), show q + 1 + (k : Int) = q + ((k + 1 : Nat) : Int) by omega]
theorem rg_flat {b : Int} : ∀ (R : List Rg) (F : List Rg), Gd R b → (∀ l p, F.getLast? = some l → R.head? = some p → l.2 + 1 < p.1) → (flR R).foldl (rgS 1) F = F ++ R
  | [], F, _, _ => by
    rw [List.append_nil]
    rfl
  | p :: t, F, g, h => by
    have g1 := g.1
    obtain ⟨k, hk⟩ : ∃ k : Nat, (p.2 - p.1 + 1).toNat = k + 1 := ⟨(p.2 - p.1).toNat, by omega⟩
    have e0 : flP p = p.1 :: posL (p.1 + 1) k := by
      unfold flP
      rw [hk]
      rfl
    rw [flR_cons, List.foldl_append, e0]
    show (flR t).foldl (rgS 1) ((posL (p.1 + 1) k).foldl (rgS 1) (rgS 1 F p.1)) = F ++ p :: t
    have e1 : rgS 1 F p.1 = F ++ [(p.1, p.1)] := by
      unfold rgS
      cases e : F.getLast? with
      | none =>
        show F ++ [(p.1 * 1, p.1 * 1 + 1 - 1)] = _
        rw [Int.mul_one, show p.1 + 1 - 1 = p.1 by omega]
      | some l =>
        have := h l p e rfl
        show (if l.2 = p.1 * 1 - 1 then _ else F ++ [(p.1 * 1, p.1 * 1 + 1 - 1)]) = _
        rw [if_neg (by omega), Int.mul_one, show p.1 + 1 - 1 = p.1 by omega]
    rw [e1, rg_more, show p.1 + (k : Int) = p.2 by omega]
    have ep : (p.1, p.2) = p := rfl
    rw [ep, rg_flat t (F ++ [p]) g.2.2.2 (fun l q hl hq => by
      rw [List.getLast?_concat] at hl
      have e : p = l := Option.some.inj hl
      rw [← e]
      exact g.2.2.1 q hq), List.append_assoc]
    rfl
/-! ### positions that wait, run by run -/
def psW (ws : List Run) : List Int := ws.map (·.2)
theorem pl_same : ∀ (c : Nat) (ws : List Run) (n : Nat) (k : Str), (∀ r ∈ ws, r.1 = k) → psW (plA ws n (List.replicate c k)) = psW ws ++ posL (n : Int) c
  | 0, ws, n, k, _ => by
    show psW ws = psW ws ++ []
    rw [List.append_nil]
  | c + 1, ws, n, k, h => by
    have e : plS ws k n = ws ++ [(k, (n : Int))] := by
      cases ws with
      | nil => rfl
      | cons r t => exact if_pos (h r (List.mem_cons_self ..))
    show psW (plA (plS ws k n) (n + 1) (List.replicate c k)) = psW ws ++ ((n : Int) :: posL ((n : Int) + 1) c)
    rw [e, pl_same c _ (n + 1) k (fun r hr => by
      rcases List.mem_append.mp hr with z | z
      · exact h r z
      · rw [List.mem_singleton.mp z])]
    unfold psW
    rw [List.map_append, List.append_assoc]
    rfl
theorem pl_other : ∀ (c : Nat) (ws : List Run) (n : Nat) (k : Str), (∀ r ∈ ws, r.1 ≠ k) → psW (plA ws n (List.replicate c k)) = (psW ws).drop c ++ posL ((n : Int) + (ws.length : Int)) (c - ws.length)
  | 0, ws, n, k, _ => by
    show psW ws = (psW ws).drop 0 ++ posL _ (0 - ws.length)
    rw [Nat.zero_sub]
    show psW ws = psW ws ++ []
    rw [List.append_nil]
  | c + 1, [], n, k, _ => by
    have := pl_same (c + 1) [] n k (fun r h => by cases h)
    rw [this]
    show [] ++ posL (n : Int) (c + 1) = ([] : List Int).drop (c + 1) ++ posL ((n : Int) + 0) (c + 1 - 0)
    rw [List.drop_nil, Int.add_zero]
    rfl
  | c + 1, r :: t, n, k, h => by
    have e : plS (r :: t) k n = t := if_neg (h r (List.mem_cons_self ..))
    show psW (plA (plS (r :: t) k n) (n + 1) (List.replicate c k)) = (psW t).drop c ++ posL ((n : Int) + ((r :: t).length : Int)) (c + 1 - (r :: t).length)
    rw [e, pl_other c t (n + 1) k (fun x hx => h x (List.mem_cons_of_mem _ hx)), List.length_cons, show ((n + 1 : Nat) : Int) + (t.length : Int) = (n : Int) + ((t.length + 1 : Nat) : Int) by omega, show c + 1 - (t.length + 1) = c - t.length by omega]
end UP

set_option Elab.async false
set_option linter.all false
set_option maxRecDepth 100000
set_option maxHeartbeats 4000000
namespace UP
open PySem PySem.Spec PyProof.Rows L2
theorem plA_app : ∀ (l m : List Str) (ws : List Run) (n : Nat), plA ws n (l ++ m) = plA (plA ws n l) (n + l.length) m
  | [], m, ws, n => rfl
  | k :: t, m, ws, n => by
    show plA (plS ws k n) (n + 1) (t ++ m) = plA (plA (plS ws k n) (n + 1) t) (n + (k :: t).length) m
    rw [plA_app t m, List.length_cons, show n + 1 + t.length = n + (t.length + 1) by omega]
theorem uni_plA : ∀ (l : List Str) (ws : List Run) (n : Nat), Uni ws → Uni (plA ws n l)
  | [], _, _, h => h
  | k :: t, ws, n, h => uni_plA t _ _ (uni_plS h)
theorem told_len {ws : List Run} : numR (toldR ws) = (ws.length : Int) := by
  cases ws with
  | nil => rfl
  | cons r t => rfl
/-- one run -/
theorem one_run {ws : List Run} {R : List Rg} {n : Nat} {r : Run} (u : Uni ws) (fl : flR R = psW ws) (g : Gd R (n : Int)) (c1 : 1 ≤ r.2) (bd : ∀ l, R.getLast? = some l → l.2 = (n : Int) - 1 → ∀ x, toldR ws = some x → x.1 ≠ r.1) :
    flR (wfR R (leavR (toldR ws) r.1 r.2) ++ adP (toldR ws) (n : Int) r) = psW (plA ws n (List.replicate r.2.toNat r.1)) ∧ Gd (wfR R (leavR (toldR ws) r.1 r.2) ++ adP (toldR ws) (n : Int) r) ((n : Int) + r.2) ∧
    ∀ l, (wfR R (leavR (toldR ws) r.1 r.2) ++ adP (toldR ws) (n : Int) r).getLast? = some l → l.2 = (n : Int) + r.2 - 1 → ∀ x, toldR (plA ws n (List.replicate r.2.toNat r.1)) = some x → x.1 = r.1 := by
  obtain ⟨c, hc⟩ : ∃ c : Nat, r.2.toNat = c + 1 := ⟨r.2.toNat - 1, by omega⟩
  have er : ((c : Int) + 1) = r.2 := by omega
  have nn : PosO (toldR ws) := by
    intro x hx
    cases ws with
    | nil => cases hx
    | cons y t =>
      cases hx
      show 1 ≤ (((y :: t).length : Nat) : Int)
      rw [List.length_cons]
      omega
  have told' : toldR (plA ws n (List.replicate r.2.toNat r.1)) = stepR (toldR ws) r.1 r.2 := by
    rw [told_plA _ _ _ u, hc, it_step c _ _ nn, er]
  cases ws with
  | nil =>
    -- nobody waits
    have eR : R = [] := by
      cases R with
      | nil => rfl
      | cons p t =>
        have g1 := g.1
        have : flR (p :: t) = [] := fl
        rw [flR_cons] at this
        have l0 := congrArg List.length this
        rw [List.length_append, show (flP p).length = (p.2 - p.1 + 1).toNat from posL_len _ _] at l0
        have l0 : (p.2 - p.1 + 1).toNat + (flR t).length = 0 := l0
        omega
    subst eR
    have lv : leavR (toldR []) r.1 r.2 = 0 := rfl
    have ad : adP (toldR []) (n : Int) r = [((n : Int) + 0, (n : Int) + r.2 - 1)] := if_pos (by rw [lv]; omega)
    rw [lv, ad]
    refine ⟨?_, ⟨by show (n : Int) + 0 ≤ (n : Int) + r.2 - 1; omega, by show (n : Int) + r.2 - 1 < (n : Int) + r.2; omega, (fun x h => by cases h), trivial⟩, fun l _ _ x hx => ?_⟩
    · rw [pl_same r.2.toNat [] n r.1 (fun r h => by cases h)]
      show posL ((n : Int) + 0) ((n : Int) + r.2 - 1 - ((n : Int) + 0) + 1).toNat ++ [] = [] ++ posL (n : Int) r.2.toNat
      rw [List.append_nil, List.nil_append, Int.add_zero, show (n : Int) + r.2 - 1 - (n : Int) + 1 = r.2 by omega]
    · rw [told'] at hx
      cases hx
      rfl
  | cons y t =>
    by_cases e : y.1 = r.1
    · -- the same kind
      have all : ∀ x ∈ y :: t, x.1 = r.1 := fun x hx => (u x hx y (List.mem_cons_self ..)).trans e
      have lv : leavR (toldR (y :: t)) r.1 r.2 = 0 := if_pos e
      have ad : adP (toldR (y :: t)) (n : Int) r = [((n : Int) + 0, (n : Int) + r.2 - 1)] := by
        unfold adP
        rw [lv, if_pos (by omega)]
      rw [lv, ad, wf_zero g]
      refine ⟨?_, ?_, fun l _ _ x hx => ?_⟩
      · rw [flR_app, fl, pl_same r.2.toNat _ n r.1 all]
        congr 1
        show posL ((n : Int) + 0) ((n : Int) + r.2 - 1 - ((n : Int) + 0) + 1).toNat ++ [] = _
        rw [List.append_nil, Int.add_zero, show (n : Int) + r.2 - 1 - (n : Int) + 1 = r.2 by omega]
      · refine Gd.snoc (Gd.mono (by omega) g) (by show (n : Int) + 0 ≤ (n : Int) + r.2 - 1; omega) (by show (n : Int) + r.2 - 1 < (n : Int) + r.2; omega) fun l hl => ?_
        have h1 := Gd.last g l hl
        show l.2 + 1 < (n : Int) + 0
        by_cases z : l.2 = (n : Int) - 1
        · exact absurd e (bd l hl z (y.1, ((y :: t).length : Int)) rfl)
        · omega
      · rw [told', show stepR (toldR (y :: t)) r.1 r.2 = some (r.1, _ + r.2) from step_same e] at hx
        cases hx
        rfl
    · -- another kind
      have all : ∀ x ∈ y :: t, x.1 ≠ r.1 := fun x hx z => e ((u y (List.mem_cons_self ..) x hx).trans z)
      have lv : leavR (toldR (y :: t)) r.1 r.2 = if r.2 < ((y :: t).length : Int) then r.2 else ((y :: t).length : Int) := if_neg e
      have lfl : (flR R).length = (y :: t).length := by
        rw [fl]
        exact List.length_map _
      by_cases q : r.2 ≤ ((y :: t).length : Int)
      · have lv1 : leavR (toldR (y :: t)) r.1 r.2 = r.2 := by
          rw [lv]
          split <;> omega
        have ad : adP (toldR (y :: t)) (n : Int) r = [] := if_neg (by rw [lv1]; omega)
        rw [lv1, ad, List.append_nil]
        refine ⟨?_, Gd.mono (by omega) (wf_good g (by omega)), fun l hl hz => ?_⟩
        · rw [wf_flat g (by omega), fl, pl_other r.2.toNat _ n r.1 all, show r.2.toNat - (y :: t).length = 0 by omega]
          show _ = _ ++ []
          rw [List.append_nil]
        · have := wf_lastlt g (show 0 ≤ r.2 by omega) l hl
          omega
      · have lv1 : leavR (toldR (y :: t)) r.1 r.2 = ((y :: t).length : Int) := by
          rw [lv, if_neg (by omega)]
        have ad : adP (toldR (y :: t)) (n : Int) r = [((n : Int) + ((y :: t).length : Int), (n : Int) + r.2 - 1)] := by
          unfold adP
          rw [lv1, if_pos (by omega)]
        have fl0 : flR (wfR R ((y :: t).length : Int)) = [] := by
          rw [wf_flat g (by omega), Int.toNat_natCast, List.drop_of_length_le (by omega)]
        have w0 : wfR R ((y :: t).length : Int) = [] := by
          cases hw : wfR R ((y :: t).length : Int) with
          | nil => rfl
          | cons p s =>
            have gg := wf_good g (show 0 ≤ ((y :: t).length : Int) by omega)
            rw [hw] at gg fl0
            have g1 := gg.1
            rw [flR_cons] at fl0
            have l0 := congrArg List.length fl0
            rw [List.length_append, show (flP p).length = (p.2 - p.1 + 1).toNat from posL_len _ _] at l0
            have l0 : (p.2 - p.1 + 1).toNat + (flR s).length = 0 := l0
            omega
        rw [lv1, ad, w0]
        refine ⟨?_, ⟨by show (n : Int) + ((y :: t).length : Int) ≤ (n : Int) + r.2 - 1; omega, by show (n : Int) + r.2 - 1 < (n : Int) + r.2; omega, (fun x h => by cases h), trivial⟩, fun l _ _ x hx => ?_⟩
        · rw [pl_other r.2.toNat _ n r.1 all, List.drop_of_length_le (by unfold psW; rw [List.length_map]; omega)]
          show posL ((n : Int) + ((y :: t).length : Int)) ((n : Int) + r.2 - 1 - ((n : Int) + ((y :: t).length : Int)) + 1).toNat ++ [] = [] ++ _
          rw [List.append_nil, List.nil_append, show ((n : Int) + r.2 - 1 - ((n : Int) + ((y :: t).length : Int)) + 1).toNat = r.2.toNat - (y :: t).length by omega]
        · rw [told', show stepR (toldR (y :: t)) r.1 r.2 = _ from step_other (r := (y.1, ((y :: t).length : Int))) e] at hx
          have h0 : ¬ (0 : Int) < ((y :: t).length : Int) - r.2 := by omega
          have h1 : ¬ ((y :: t).length : Int) - r.2 = 0 := by omega
          have hx : (if (0 : Int) < ((y :: t).length : Int) - r.2 then some (y.1, ((y :: t).length : Int) - r.2) else if ((y :: t).length : Int) - r.2 = 0 then none else some (r.1, -(((y :: t).length : Int) - r.2))) = some x := hx
          rw [if_neg h0, if_neg h1] at hx
          cases hx
          rfl
theorem all_runs : ∀ (rs : List Run) (ws : List Run) (R : List Rg) (n : Nat), Uni ws → flR R = psW ws → Gd R (n : Int) → (∀ r ∈ rs, 1 ≤ r.2) → Alt rs → (∀ l, R.getLast? = some l → l.2 = (n : Int) - 1 → ∀ x r, toldR ws = some x → rs.head? = some r → x.1 ≠ r.1) →
    flR (waR rs (toldR ws) (n : Int) R) = psW (plA ws n (itR rs)) ∧ ∃ b, Gd (waR rs (toldR ws) (n : Int) R) b
  | [], ws, R, n, _, fl, g, _, _, _ => ⟨fl, _, g⟩
  | r :: t, ws, R, n, u, fl, g, k, alt, bd => by
    have c1 := k r (List.mem_cons_self ..)
    obtain ⟨h1, h2, h3⟩ := one_run (r := r) u fl g c1 fun l hl hz x hx => bd l hl hz x r hx rfl
    have e : itR (r :: t) = List.replicate r.2.toNat r.1 ++ itR t := rfl
    have cn : ((n + r.2.toNat : Nat) : Int) = (n : Int) + r.2 := by omega
    have told' : toldR (plA ws n (List.replicate r.2.toNat r.1)) = stepR (toldR ws) r.1 r.2 := by
      have nn : PosO (toldR ws) := by
        intro x hx
        cases ws with
        | nil => cases hx
        | cons y t =>
          cases hx
          show 1 ≤ (((y :: t).length : Nat) : Int)
          rw [List.length_cons]
          omega
      obtain ⟨c, hc⟩ : ∃ c : Nat, r.2.toNat = c + 1 := ⟨r.2.toNat - 1, by omega⟩
      rw [told_plA _ _ _ u, hc, it_step c _ _ nn, show (c : Int) + 1 = r.2 by omega]
    have ih := all_runs t (plA ws n (List.replicate r.2.toNat r.1)) _ (n + r.2.toNat) (uni_plA _ _ _ u) h1 (by rw [cn]; exact h2) (fun x hx => k x (List.mem_cons_of_mem _ hx)) (fun i x y hx hy => alt (i + 1) x y hx hy) (fun l hl hz x r' hx hr' => by
      have ex := h3 l hl (by omega) x hx
      rw [ex]
      refine alt 0 r r' rfl ?_
      cases t with
      | nil => cases hr'
      | cons y s => exact hr')
    rw [cn, told'] at ih
    rw [e, plA_app, List.length_replicate]
    exact ih
/-! ### the parts up to a moment -/
theorem cut_none {e : Int} : ∀ (rs : List Run) (b : Int), 0 ≤ b → e ≤ b → (∀ r ∈ rs, 1 ≤ r.2) → cutR 0 e b rs = []
  | [], _, _, _, _ => rfl
  | r :: t, b, h0, h, k => by
    have c1 := k r (List.mem_cons_self ..)
    have hs : ¬ 0 < sizeR b 0 e r.2 := by
      unfold sizeR
      split <;> split <;> omega
    show pieceR b 0 e r ++ cutR 0 e (b + r.2) t = []
    rw [show pieceR b 0 e r = [] from if_neg hs, cut_none t (b + r.2) (by omega) (by omega) fun x hx => k x (List.mem_cons_of_mem _ hx)]
    rfl
theorem cut_kinds {e : Int} : ∀ (rs : List Run) (b : Int), 0 ≤ b → (∀ r ∈ rs, 1 ≤ r.2) → ∃ n, (cutR 0 e b rs).map (·.1) = (rs.map (·.1)).take n
  | [], _, _, _ => ⟨0, rfl⟩
  | r :: t, b, h0, k => by
    by_cases h : e ≤ b
    · exact ⟨0, by rw [cut_none (r :: t) b h0 h k]; rfl⟩
    · have c1 := k r (List.mem_cons_self ..)
      obtain ⟨n, hn⟩ := cut_kinds t (b + r.2) (by omega) fun x hx => k x (List.mem_cons_of_mem _ hx)
      have hs : 0 < sizeR b 0 e r.2 := by
        unfold sizeR
        split <;> split <;> omega
      refine ⟨n + 1, ?_⟩
      show (pieceR b 0 e r ++ cutR 0 e (b + r.2) t).map (·.1) = r.1 :: (t.map (·.1)).take n
      rw [show pieceR b 0 e r = [(r.1, sizeR b 0 e r.2)] from if_pos hs, List.map_append, hn]
      rfl
theorem alt_take {rs hs : List Run} {n : Nat} (h : hs.map (·.1) = (rs.map (·.1)).take n) (a : Alt rs) : Alt hs := by
  intro i x y hx hy
  have g : ∀ (j : Nat) (z : Run), hs[j]? = some z → ∃ w, rs[j]? = some w ∧ w.1 = z.1 := by
    intro j z hz
    have := congrArg (fun l : List Str => l[j]?) h
    simp only [List.getElem?_map, hz, List.getElem?_take] at this
    split at this
    · cases e : rs[j]? with
      | none => rw [e] at this; cases this
      | some w =>
        rw [e] at this
        exact ⟨w, rfl, (Option.some.inj this).symm⟩
    · cases this
  obtain ⟨x', h1, e1⟩ := g i x hx
  obtain ⟨y', h2, e2⟩ := g (i + 1) y hy
  rw [← e1, ← e2]
  exact a i x' y' h1 h2
/-- the ranges at a multiplied moment -/
theorem whole_wa {rs : List Run} {t : Int} {m : Nat} (ht : 0 < t) (k : ∀ r ∈ rs, 1 ≤ r.2) (a : Alt rs) : waR (cutR 0 ((m : Int) * t) 0 (scR t rs)) none 0 [] = rgR t (psW (plA [] 0 ((itR rs).take m))) := by
  have ec := cut_sc (s := 0) (e := (m : Int)) ht rs 0
  rw [Int.zero_mul] at ec
  have es := waR_sc ht (cutR 0 (m : Int) 0 rs) none 0 []
  rw [Int.zero_mul] at es
  obtain ⟨n, hn⟩ := cut_kinds (e := (m : Int)) rs 0 (Int.le_refl _) k
  obtain ⟨h1, b, h2⟩ := all_runs (cutR 0 (m : Int) 0 rs) [] [] 0 (fun x hx => by cases hx) rfl trivial cutR_pos (alt_take hn a) (fun l hl => by cases hl)
  have h1 : flR (waR (cutR 0 (m : Int) 0 rs) none 0 []) = psW (plA [] 0 (itR (cutR 0 (m : Int) 0 rs))) := h1
  have h2 : Gd (waR (cutR 0 (m : Int) 0 rs) none 0 []) b := h2
  rw [cut_items _ _ _ (Int.le_refl _) k, Int.sub_zero, Int.toNat_natCast] at h1
  have rf := rg_flat _ [] h2 (fun l p hl => by cases hl)
  rw [h1, List.nil_append] at rf
  rw [ec, rgR_sc ht]
  unfold rgR
  rw [rf]
  exact es
end UP

set_option Elab.async false
set_option linter.all false
set_option maxRecDepth 100000
set_option maxHeartbeats 4000000
namespace UP
open PySem PySem.Spec PyProof.Rows L2
/-! ### lists of ranges -/
def Rngs (H : Hp) (a : Addr) (R : List Rg) : Prop := ∃ xs, H a = some (.lst xs) ∧ Paired (PV H) xs R
theorem pvs_same {H H' : Hp} {xs : List V} {R : List Rg} (s : Same H H') (h : Paired (PV H) xs R) : Paired (PV H') xs R := Paired.imp (fun _ _ => PV.same s) h
theorem pvs_grow {H : Hp} {D : Addr} {acc acc' xs : List V} {R : List Rg} (hD : H D = some (.lst acc)) (h : Paired (PV H) xs R) : Paired (PV (upd H D (.lst acc'))) xs R := Paired.imp (fun _ _ => PV.grow hD) h
theorem Rngs.same {H H' : Hp} {a : Addr} {R : List Rg} (s : Same H H') (h : Rngs H a R) : Rngs H' a R := by
  obtain ⟨xs, hx, hp⟩ := h
  exact ⟨xs, s _ _ hx, pvs_same s hp⟩
theorem wfP_len (p : Rg) (n : Int) : (wfP p n).length ≤ 1 := by
  unfold wfP
  split <;> simp
theorem wfR_len : ∀ (R : List Rg) (n : Int), (wfR R n).length ≤ R.length
  | [], _ => Nat.le_refl _
  | p :: t, n => by
    have h1 := wfP_len p n
    have h2 := wfR_len t (n - rmR p n)
    show (wfP p n ++ wfR t (n - rmR p n)).length ≤ _
    rw [List.length_append, List.length_cons]
    omega
theorem adP_len (st : Option Run) (b : Int) (r : Run) : (adP st b r).length ≤ 1 := by
  unfold adP
  split <;> simp
theorem waR_len : ∀ (l : List Run) (st : Option Run) (b : Int) (R : List Rg), (waR l st b R).length ≤ R.length + l.length
  | [], _, _, _ => Nat.le_refl _
  | r :: t, st, b, R => by
    have h1 := waR_len t (stepR st r.1 r.2) (b + r.2) (wfR R (leavR st r.1 r.2) ++ adP st b r)
    have h2 := wfR_len R (leavR st r.1 r.2)
    have h3 := adP_len st b r
    rw [List.length_append] at h1
    show (waR t (stepR st r.1 r.2) (b + r.2) (wfR R (leavR st r.1 r.2) ++ adP st b r)).length ≤ _
    rw [List.length_cons]
    omega
theorem paired_snocR {α β : Type} {F : α → β → Prop} : ∀ {xs : List α} (l : List β) (y : β), Paired F xs (l ++ [y]) → ∃ xs0 x, xs = xs0 ++ [x] ∧ Paired F xs0 l ∧ F x y
  | _, [], y, h => by
    cases h with
    | cons h1 h2 =>
      cases h2
      exact ⟨[], _, rfl, .nil, h1⟩
  | _, z :: l, y, h => by
    cases h with
    | cons h1 h2 =>
      obtain ⟨xs0, x, e, h3, h4⟩ := paired_snocR l y h2
      exact ⟨_ :: xs0, x, by rw [e]; rfl, .cons h1 h3, h4⟩
theorem Gd.gap {b : Int} {p : Rg} : ∀ {R : List Rg}, Gd (R ++ [p]) b → ∀ l, R.getLast? = some l → l.2 + 1 < p.1
  | [], _, l, h => by cases h
  | [q], g, l, h => by
    have e : q = l := Option.some.inj h
    rw [← e]
    exact g.2.2.1 p rfl
  | q :: r :: t, g, l, h => by
    rw [List.getLast?_cons_cons] at h
    exact Gd.gap (R := r :: t) g.2.2.2 l h
/-- a new range never touches the last one -/
theorem no_touch {cs : List Run} (pos : ∀ r ∈ cs, 1 ≤ r.2) (alt : Alt cs) {i : Nat} {r : Run} (er : cs[i]? = some r) : leavR (stR (cs.take i) none) r.1 r.2 < r.2 → ∀ l, (wfR (waR (cs.take i) none 0 []) (leavR (stR (cs.take i) none) r.1 r.2)).getLast? = some l → l.2 + 1 ≠ lenR (cs.take i) + leavR (stR (cs.take i) none) r.1 r.2 := by
  intro lt l hl z
  obtain ⟨_, b, g⟩ := all_runs (cs.take (i + 1)) [] [] 0 (fun x hx => by cases hx) rfl trivial (fun x hx => pos x (List.mem_of_mem_take hx)) (alt_take (n := i + 1) List.map_take alt) (fun l hl => by cases hl)
  have g : Gd (waR (cs.take (i + 1)) none 0 []) b := g
  rw [take_snoc er, waR_snoc, Int.zero_add, show adP (stR (cs.take i) none) (lenR (cs.take i)) r = [_] from if_pos lt] at g
  have := Gd.gap g l hl
  have this : l.2 + 1 < lenR (cs.take i) + leavR (stR (cs.take i) none) r.1 r.2 := this
  omega
section
variable {P : Program} {w : World} {K : PySem.W.Frag} {mg : Str → Option Value} {base : Heap}
/-! without_first: slots 0:ranges 1:number 2:kept 3:first 4:last 5:removed -/
abbrev s_without_first : Stmt := topS 35
theorem sc_without_first : FnScope ["ranges", "number", "kept", "first", "last", "removed"] ["ranges", "number"] (defScope s_without_first) := ⟨rfl, rfl, rfl, by decide +kernel, rfl, by decide +kernel, by decide +kernel⟩
def sp_without_first : Sp := fun vs H Q _ => ∃ (a : Addr) (R : List Rg) (n : Int), vs = [.ref a, .int n] ∧ Rngs H a R ∧ R.length ≤ 100000 ∧ ∀ H' p, Same H H' → H p = none → Rngs H' p (wfR R n) → Q (.ref p) H'
theorem ok_without_first (D : Df K mg "without_first" s_without_first) (T : Tx mg) : Has P w K mg base 1 "without_first" ["ranges", "number"] sp_without_first := by
  refine has_of D sc_without_first (fun _ _ _ _ _ _ us hl => match us, hl with | [_, _], _ => rfl) (fun vs H Q E h => ?_) (fun f cdv A outer s₀ H vs Q E hr h => ?_)
  · obtain ⟨a, R, n, rfl, _⟩ := h
    rfl
  · obtain ⟨a, R, n, rfl, ⟨xs, hx, hp⟩, l4, q⟩ := h
    have lx : xs.length = R.length := Paired.len hp
    refine ⟨_, (pss_cons (ps_set (i := 2) sc_without_first.nd rfl (by first | exact Or.inl rfl | exact Or.inr rfl) (pe_lst pa_nil))
    (pss_cons (ps_for PassesOwn.never rfl (pi_list (pv 0)) (pg_tup rfl (pgs_cons (pg_name (i := 3) sc_without_first.nd rfl (by first | exact Or.inl rfl | exact Or.inr rfl)) (pgs_cons (pg_name (i := 4) sc_without_first.nd rfl (by first | exact Or.inl rfl | exact Or.inr rfl)) pgs_nil)))
      (pss_cons (ps_set (i := 5) sc_without_first.nd rfl (by first | exact Or.inl rfl | exact Or.inr rfl) (pe_callB (call_min2 rfl) (by rfl) T.n_min (by decide +kernel) (pa_cons (pv 1) (pa_cons (pe_op op_add (pe_op op_sub (pv 4) (pv 3)) pe_int) pa_nil))))
    (C8.pss_cut (ps_if (pt_cmpR op_le (pe_op op_add (pv 3) (pv 5)) (pv 4) (nomark _)) (pss_one (ps_expr (pe_bm PySem.F.plainAttrs_list PySem.F.slot_list_append PySem.F.type_list_append mt_append (pv 2) (pa_cons (pe_tup (pa_cons (pe_op op_add (pv 3) (pv 5)) (pa_cons (pv 4) pa_nil))) pa_nil)))) pss_nil)
    (pss_one (ps_aug (i := 1) sc_without_first.nd rfl (by first | exact Or.inl rfl | exact Or.inr rfl) (pv 5) ip_sub)))))
    (pss_one (ps_ret (pv 2))))), ?_⟩
    refine ⟨Nat.zero_le _, fun p np => ?_⟩
    refine ⟨_, rfl, a, rfl, ⟨xs, .of (same_upd np _ _ hx)⟩, for_list (K := K) (a := a) (xs := xs) (fun i σ H' => ∃ b y3 y4 y5, b = wfN (R.take i) n ∧ σ = [some (.ref a), some (.int b), some (.ref p), y3, y4, y5] ∧ Same H H' ∧ ∃ ys, H' p = some (.lst ys) ∧ Paired (PV H') ys (wfR (R.take i) n))
      ⟨n, none, none, none, rfl, rfl, same_upd np, [], upd_same, .nil⟩ (fun i σ H' _ hP => ?_) (fun i x σ H1 ex hP => ?_) (fun σ H1 hP => ?_)⟩
    · obtain ⟨_, _, _, _, _, _, sm, _⟩ := hP
      exact .of (sm _ _ hx)
    · obtain ⟨b, y3, y4, y5, rfl, rfl, sm, ys, hL, hy⟩ := hP
      obtain ⟨r, er, hr1⟩ := Paired.at hp ex
      have hi : i < xs.length := (List.getElem?_eq_some_iff.mp ex).1
      obtain ⟨t, rfl, ht⟩ := PV.same sm hr1
      have el : wfN (R.take (i + 1)) n = wfN (R.take i) n - rmR r (wfN (R.take i) n) := by rw [take_snoc er, wfN_snoc]
      have ec : wfR (R.take (i + 1)) n = wfR (R.take i) n ++ wfP r (wfN (R.take i) n) := by rw [take_snoc er, wfR_snoc]
      refine ⟨t, _, rfl, .of ht, rfl, _, _, rfl, _, _, rfl, rfl, ?_⟩
      refine ⟨_, rfl, _, rfl, _, rfl, _, _, rfl, rfl, _, _, rfl, rfl, _, _, rfl, ?_⟩
      refine ⟨fun σ' H' => σ' = [some (.ref a), some (.int (wfN (R.take i) n)), some (.ref p), some (.int r.1), some (.int r.2), some (.int (rmR r (wfN (R.take i) n)))] ∧ Same H H' ∧ ∃ ys, H' p = some (.lst ys) ∧ Paired (PV H') ys (wfR (R.take (i + 1)) n), ?_, fun σ' H5 hM => ?_⟩
      · refine ⟨_, rfl, _, rfl, _, _, rfl, rfl, _, rfl, _, _, rfl, rfl, _, rfl, ite2 (fun e => ?_) (fun e => ?_)⟩
        · have e : r.1 + rmR r (wfN (R.take i) n) ≤ r.2 := of_decide_eq_true e
          have epc : wfP r (wfN (R.take i) n) = [(r.1 + rmR r (wfN (R.take i) n), r.2)] := if_pos e
          refine ⟨_, rfl, .inl ⟨rfl, _, SqL.of hL⟩, _, rfl, _, rfl, _, _, rfl, rfl, _, rfl, (by show 2 ≤ sizeLine; decide), fun u nn => ⟨p, _, _, rfl, rfl, same_upd nn _ _ hL, ?_, ?_⟩⟩
          · have h1 := Paired.len hy
            have h2 := wfR_len (R.take i) n
            rw [List.length_take] at h2
            exact small (by omega)
          · refine ⟨rfl, same_grow np (sm.trans (same_upd nn)), _, upd_same, ?_⟩
            rw [ec, epc]
            exact Paired.app (pvs_grow (same_upd nn _ _ hL) (pvs_same (same_upd nn) hy)) (.cons (PV.grow (same_upd nn _ _ hL) ⟨_, rfl, upd_same⟩) .nil)
        · have e : ¬ r.1 + rmR r (wfN (R.take i) n) ≤ r.2 := fun z => e (decide_eq_true z)
          have epc : wfP r (wfN (R.take i) n) = [] := if_neg e
          refine ⟨rfl, sm, _, hL, ?_⟩
          rw [ec, epc, List.append_nil]
          exact hy
      · obtain ⟨rfl, s5, ys5, hL5, hy5⟩ := hM
        exact ⟨_, rfl, _, rfl, _, _, rfl, rfl, _, _, _, _, el.symm, rfl, s5, ys5, hL5, hy5⟩
    · obtain ⟨b, y3, y4, y5, rfl, rfl, sm, ys, hL, hy⟩ := hP
      rw [lx, List.take_length] at hy
      exact ⟨_, rfl, q H1 p sm np ⟨ys, hL, hy⟩⟩
def adQ (b c n : Int) : List Rg := if n < c then [(b + n, b + c - 1)] else []
end
end UP

set_option Elab.async false
set_option linter.all false
set_option maxRecDepth 100000
set_option maxHeartbeats 4000000
namespace UP
open PySem PySem.Spec PyProof.Rows L2
/-! ### blocks of pairs -/
theorem paired_snoc {α β : Type} {F : α → β → Prop} : ∀ {xs : List α} (l : List β) (y : β), Paired F xs (l ++ [y]) → ∃ xs0 x, xs = xs0 ++ [x] ∧ Paired F xs0 l ∧ F x y
  | _, [], y, h => by
    cases h with
    | cons h1 h2 =>
      cases h2
      exact ⟨[], _, rfl, .nil, h1⟩
  | _, z :: l, y, h => by
    cases h with
    | cons h1 h2 =>
      obtain ⟨xs0, x, e, h3, h4⟩ := paired_snoc l y h2
      exact ⟨_ :: xs0, x, by rw [e]; rfl, .cons h1 h3, h4⟩
theorem set_lastX {α : Type} : ∀ (l : List α) (x y : α), (l ++ [x]).set l.length y = l ++ [y]
  | [], _, _ => rfl
  | z :: l, x, y => congrArg (z :: ·) (set_lastX l x y)
theorem ixN_lastX {n : Nat} : ixN (n + 1) (-1) = some n := by
  unfold ixN
  simp
  omega
abbrev Blk := Int × Int × Int
def BV (H : Hp) (v : V) (b : Blk) : Prop := ∃ t, v = .ref t ∧ H t = some (.tup [.int b.1, .int b.2.1, .int b.2.2])
theorem BV.same {H H' : Hp} {v : V} {p : Blk} (s : Same H H') (h : BV H v p) : BV H' v p := by
  obtain ⟨t, e, h⟩ := h
  exact ⟨t, e, s _ _ h⟩
theorem BV.grow {H : Hp} {D : Addr} {acc acc' : List V} {v : V} {p : Blk} (hD : H D = some (.lst acc)) (h : BV H v p) : BV (upd H D (.lst acc')) v p := by
  obtain ⟨t, e, h⟩ := h
  refine ⟨t, e, ?_⟩
  rw [upd_ne (ne_of h hD (by intro q; cases q))]
  exact h
theorem BV.but {H H' : Hp} {D : Addr} {acc : List V} {v : V} {p : Blk} (hD : H D = some (.lst acc)) (s : But D H H') (h : BV H v p) : BV H' v p := by
  obtain ⟨t, e, h⟩ := h
  exact ⟨t, e, s _ _ (ne_of h hD (by intro q; cases q)) h⟩
def Blks (H : Hp) (a : Addr) (B : List Blk) : Prop := ∃ xs, H a = some (.lst xs) ∧ Paired (BV H) xs B
theorem bvs_same {H H' : Hp} {xs : List V} {R : List Blk} (s : Same H H') (h : Paired (BV H) xs R) : Paired (BV H') xs R := Paired.imp (fun _ _ => BV.same s) h
theorem bvs_grow {H : Hp} {D : Addr} {acc acc' xs : List V} {R : List Blk} (hD : H D = some (.lst acc)) (h : Paired (BV H) xs R) : Paired (BV (upd H D (.lst acc'))) xs R := Paired.imp (fun _ _ => BV.grow hD) h
theorem Blks.same {H H' : Hp} {a : Addr} {R : List Blk} (s : Same H H') (h : Blks H a R) : Blks H' a R := by
  obtain ⟨xs, hx, hp⟩ := h
  exact ⟨xs, s _ _ hx, bvs_same s hp⟩
def brP (p : Rg) (b n : Int) : List Blk := if 0 < rmR p n then [(p.1, b, rmR p n)] else []
def brR : List Rg → Int → Int → List Blk
  | [], _, _ => []
  | p :: t, b, n => brP p b n ++ brR t (b + rmR p n) (n - rmR p n)
theorem brR_snoc : ∀ (l : List Rg) (p : Rg) (b n : Int), brR (l ++ [p]) b n = brR l b n ++ brP p (b + (n - wfN l n)) (wfN l n)
  | [], p, b, n => by
    show brP p b n ++ [] = [] ++ brP p (b + (n - n)) n
    rw [List.append_nil, List.nil_append, show b + (n - n) = b by omega]
  | x :: t, p, b, n => by
    show brP x b n ++ brR (t ++ [p]) (b + rmR x n) (n - rmR x n) = (brP x b n ++ brR t (b + rmR x n) (n - rmR x n)) ++ brP p (b + (n - wfN t (n - rmR x n))) (wfN t (n - rmR x n))
    rw [brR_snoc t, List.append_assoc, show b + rmR x n + (n - rmR x n - wfN t (n - rmR x n)) = b + (n - wfN t (n - rmR x n)) by omega]
theorem brP_len (p : Rg) (b n : Int) : (brP p b n).length ≤ 1 := by
  unfold brP
  split <;> simp
theorem brR_len : ∀ (R : List Rg) (b n : Int), (brR R b n).length ≤ R.length
  | [], _, _ => Nat.le_refl _
  | p :: t, b, n => by
    have h1 := brP_len p b n
    have h2 := brR_len t (b + rmR p n) (n - rmR p n)
    show (brP p b n ++ brR t (b + rmR p n) (n - rmR p n)).length ≤ _
    rw [List.length_append, List.length_cons]
    omega
def addB (B : List Blk) (x : Blk) : List Blk := match B.getLast? with
  | none => B ++ [x]
  | some l => if l.1 + l.2.2 = x.1 ∧ l.2.1 + l.2.2 = x.2.1 then B.dropLast ++ [(l.1, l.2.1, l.2.2 + x.2.2)] else B ++ [x]
theorem addB_len (B : List Blk) (x : Blk) : (addB B x).length ≤ B.length + 1 := by
  unfold addB
  split
  · rw [List.length_append]
    exact Nat.le_refl _
  · split
    · rw [List.length_append, List.length_dropLast]
      simp only [List.length_cons, List.length_nil]
      omega
    · rw [List.length_append]
      exact Nat.le_refl _
def addsB (B xs : List Blk) : List Blk := xs.foldl addB B
theorem addsB_snoc (B xs : List Blk) (x : Blk) : addsB B (xs ++ [x]) = addB (addsB B xs) x := by
  unfold addsB
  rw [List.foldl_append]
  rfl
theorem addsB_len : ∀ (xs B : List Blk), (addsB B xs).length ≤ B.length + xs.length
  | [], B => Nat.le_refl _
  | x :: t, B => by
    have h1 := addsB_len t (addB B x)
    have h2 := addB_len B x
    show (addsB (addB B x) t).length ≤ _
    rw [List.length_cons]
    omega
def boR : List Run → Option Run → Int → List Rg → List Blk → List Blk
  | [], _, _, _, B => B
  | r :: t, st, b, R, B => boR t (stepR st r.1 r.2) (b + r.2) (wfR R (leavR st r.1 r.2) ++ adP st b r) (addsB B (brR R b (leavR st r.1 r.2)))
theorem boR_snoc : ∀ (l : List Run) (r : Run) (st : Option Run) (b : Int) (R : List Rg) (B : List Blk), boR (l ++ [r]) st b R B = addsB (boR l st b R B) (brR (waR l st b R) (b + lenR l) (leavR (stR l st) r.1 r.2))
  | [], r, st, b, R, B => by
    show addsB B (brR R b (leavR st r.1 r.2)) = addsB B (brR R (b + lenR []) (leavR st r.1 r.2))
    rw [lenR_nil, Int.add_zero]
  | x :: t, r, st, b, R, B => by
    show boR (t ++ [r]) (stepR st x.1 x.2) (b + x.2) (wfR R (leavR st x.1 x.2) ++ adP st b x) (addsB B (brR R b (leavR st x.1 x.2))) = addsB (boR t (stepR st x.1 x.2) (b + x.2) (wfR R (leavR st x.1 x.2) ++ adP st b x) (addsB B (brR R b (leavR st x.1 x.2)))) (brR (waR t (stepR st x.1 x.2) (b + x.2) (wfR R (leavR st x.1 x.2) ++ adP st b x)) (b + lenR (x :: t)) (leavR (stR (x :: t) st) r.1 r.2))
    rw [boR_snoc t, stR_cons, lenR_cons, Int.add_assoc]
theorem boR_len : ∀ (l : List Run) (st : Option Run) (b : Int) (R : List Rg) (B : List Blk), (boR l st b R B).length ≤ B.length + l.length * (R.length + l.length)
  | [], _, _, _, _ => by
    show _ ≤ _ + 0 * _
    rw [Nat.zero_mul]
    exact Nat.le_refl _
  | r :: t, st, b, R, B => by
    have h1 := boR_len t (stepR st r.1 r.2) (b + r.2) (wfR R (leavR st r.1 r.2) ++ adP st b r) (addsB B (brR R b (leavR st r.1 r.2)))
    have h2 := addsB_len (brR R b (leavR st r.1 r.2)) B
    have h3 := brR_len R b (leavR st r.1 r.2)
    have h4 := wfR_len R (leavR st r.1 r.2)
    have h5 := adP_len st b r
    rw [List.length_append] at h1
    show (boR t (stepR st r.1 r.2) (b + r.2) (wfR R (leavR st r.1 r.2) ++ adP st b r) (addsB B (brR R b (leavR st r.1 r.2)))).length ≤ _
    rw [List.length_cons, Nat.succ_mul]
    have h6 : t.length * ((wfR R (leavR st r.1 r.2)).length + (adP st b r).length + t.length) ≤ t.length * (R.length + (t.length + 1)) := Nat.mul_le_mul_left _ (by omega)
    omega
theorem shaped_not {B : List Blk} : B = [] ∨ ∃ B0 l, B = B0 ++ [l] := by
  rcases List.eq_nil_or_concat B with e | ⟨B0, l, e⟩
  · exact .inl e
  · exact .inr ⟨B0, l, by rw [e, List.concat_eq_append]⟩
section
variable {P : Program} {w : World} {K : PySem.W.Frag} {mg : Str → Option Value} {base : Heap}
/-! blocks_of_run: slots 0:ranges 1:start 2:leaving 3:blocks 4:first 5:last 6:size -/
abbrev s_blocks_of_run : Stmt := topS 38
theorem sc_blocks_of_run : FnScope ["ranges", "start", "leaving", "blocks", "first", "last", "size"] ["ranges", "start", "leaving"] (defScope s_blocks_of_run) := ⟨rfl, rfl, rfl, by decide +kernel, rfl, by decide +kernel, by decide +kernel⟩
def sp_blocks_of_run : Sp := fun vs H Q _ => ∃ (a : Addr) (R : List Rg) (b n : Int), vs = [.ref a, .int b, .int n] ∧ Rngs H a R ∧ R.length ≤ 100000 ∧ ∀ H' p, Same H H' → H p = none → Blks H' p (brR R b n) → Q (.ref p) H'
theorem ok_blocks_of_run (D : Df K mg "blocks_of_run" s_blocks_of_run) (T : Tx mg) : Has P w K mg base 1 "blocks_of_run" ["ranges", "start", "leaving"] sp_blocks_of_run := by
  refine has_of D sc_blocks_of_run (fun _ _ _ _ _ _ us hl => match us, hl with | [_, _, _], _ => rfl) (fun vs H Q E h => ?_) (fun f cdv A outer s₀ H vs Q E hr h => ?_)
  · obtain ⟨a, R, b, n, rfl, _⟩ := h
    rfl
  · obtain ⟨a, R, b, n, rfl, ⟨xs, hx, hp⟩, l4, q⟩ := h
    have lx : xs.length = R.length := Paired.len hp
    refine ⟨_, (pss_cons (ps_set (i := 3) sc_blocks_of_run.nd rfl (by first | exact Or.inl rfl | exact Or.inr rfl) (pe_lst pa_nil))
    (pss_cons (ps_for PassesOwn.never rfl (pi_list (pv 0)) (pg_tup rfl (pgs_cons (pg_name (i := 4) sc_blocks_of_run.nd rfl (by first | exact Or.inl rfl | exact Or.inr rfl)) (pgs_cons (pg_name (i := 5) sc_blocks_of_run.nd rfl (by first | exact Or.inl rfl | exact Or.inr rfl)) pgs_nil)))
      (pss_cons (ps_set (i := 6) sc_blocks_of_run.nd rfl (by first | exact Or.inl rfl | exact Or.inr rfl) (pe_callB (call_min2 rfl) (by rfl) T.n_min (by decide +kernel) (pa_cons (pv 2) (pa_cons (pe_op op_add (pe_op op_sub (pv 5) (pv 4)) pe_int) pa_nil))))
    (C8.pss_cut (ps_if (pt_cmpR op_gt (pv 6) pe_int (nomark _)) (pss_one (ps_expr (pe_bm PySem.F.plainAttrs_list PySem.F.slot_list_append PySem.F.type_list_append mt_append (pv 3) (pa_cons (pe_tup (pa_cons (pv 4) (pa_cons (pv 1) (pa_cons (pv 6) pa_nil)))) pa_nil)))) pss_nil)
    (pss_cons (ps_aug (i := 1) sc_blocks_of_run.nd rfl (by first | exact Or.inl rfl | exact Or.inr rfl) (pv 6) ip_add)
    (pss_one (ps_aug (i := 2) sc_blocks_of_run.nd rfl (by first | exact Or.inl rfl | exact Or.inr rfl) (pv 6) ip_sub))))))
    (pss_one (ps_ret (pv 3))))), ?_⟩
    refine ⟨Nat.zero_le _, fun p np => ?_⟩
    refine ⟨_, rfl, a, rfl, ⟨xs, .of (same_upd np _ _ hx)⟩, for_list (K := K) (a := a) (xs := xs) (fun i σ H' => ∃ c m y4 y5 y6, m = wfN (R.take i) n ∧ c = b + (n - wfN (R.take i) n) ∧ σ = [some (.ref a), some (.int c), some (.int m), some (.ref p), y4, y5, y6] ∧ Same H H' ∧ ∃ ys, H' p = some (.lst ys) ∧ Paired (BV H') ys (brR (R.take i) b n))
      ⟨b, n, none, none, none, rfl, (by show b = b + (n - n); omega), rfl, same_upd np, [], upd_same, .nil⟩ (fun i σ H' _ hP => ?_) (fun i x σ H1 ex hP => ?_) (fun σ H1 hP => ?_)⟩
    · obtain ⟨_, _, _, _, _, _, _, _, sm, _⟩ := hP
      exact .of (sm _ _ hx)
    · obtain ⟨c, m, y4, y5, y6, em, ecc, rfl, sm, ys, hL, hy⟩ := hP
      obtain ⟨r, er, hr1⟩ := Paired.at hp ex
      have hi : i < xs.length := (List.getElem?_eq_some_iff.mp ex).1
      obtain ⟨t, rfl, ht⟩ := PV.same sm hr1
      have el : wfN (R.take (i + 1)) n = m - rmR r m := by rw [take_snoc er, wfN_snoc, em]
      have ec : brR (R.take (i + 1)) b n = brR (R.take i) b n ++ brP r c m := by rw [take_snoc er, brR_snoc, ecc, em]
      refine ⟨t, _, rfl, .of ht, rfl, _, _, rfl, _, _, rfl, rfl, ?_⟩
      refine ⟨_, rfl, _, rfl, _, rfl, _, _, rfl, rfl, _, _, rfl, rfl, _, _, rfl, ?_⟩
      refine ⟨fun σ' H' => σ' = [some (.ref a), some (.int c), some (.int m), some (.ref p), some (.int r.1), some (.int r.2), some (.int (rmR r m))] ∧ Same H H' ∧ ∃ ys, H' p = some (.lst ys) ∧ Paired (BV H') ys (brR (R.take (i + 1)) b n), ?_, fun σ' H5 hM => ?_⟩
      · refine ⟨_, rfl, _, _, rfl, rfl, _, rfl, ite2 (fun e => ?_) (fun e => ?_)⟩
        · have e : 0 < rmR r m := of_decide_eq_true e
          have epc : brP r c m = [(r.1, c, rmR r m)] := if_pos e
          refine ⟨_, rfl, .inl ⟨rfl, _, SqL.of hL⟩, _, rfl, _, rfl, _, rfl, (by show 3 ≤ sizeLine; decide), fun u nn => ⟨p, _, _, rfl, rfl, same_upd nn _ _ hL, ?_, ?_⟩⟩
          · have h1 := Paired.len hy
            have h2 := brR_len (R.take i) b n
            rw [List.length_take] at h2
            exact small (by omega)
          · refine ⟨rfl, same_grow np (sm.trans (same_upd nn)), _, upd_same, ?_⟩
            rw [ec, epc]
            exact Paired.app (bvs_grow (same_upd nn _ _ hL) (bvs_same (same_upd nn) hy)) (.cons (BV.grow (same_upd nn _ _ hL) ⟨_, rfl, upd_same⟩) .nil)
        · have e : ¬ 0 < rmR r m := fun z => e (decide_eq_true z)
          have epc : brP r c m = [] := if_neg e
          refine ⟨rfl, sm, _, hL, ?_⟩
          rw [ec, epc, List.append_nil]
          exact hy
      · obtain ⟨rfl, s5, ys5, hL5, hy5⟩ := hM
        exact ⟨_, rfl, _, rfl, _, _, rfl, rfl, _, rfl, _, rfl, _, _, rfl, rfl, _, _, _, _, _, el.symm, (by show c + rmR r m = b + (n - wfN (R.take (i + 1)) n); rw [el]; omega), rfl, s5, ys5, hL5, hy5⟩
    · obtain ⟨c, m, y3, y4, y5, em, ecc, rfl, sm, ys, hL, hy⟩ := hP
      rw [lx, List.take_length] at hy
      exact ⟨_, rfl, q H1 p sm np ⟨ys, hL, hy⟩⟩
end
end UP

set_option Elab.async false
set_option linter.all false
set_option maxRecDepth 100000
set_option maxHeartbeats 4000000
namespace UP
open PySem PySem.Spec PyProof.Rows L2
def pgR : List Blk → Int → Option Int
  | [], _ => none
  | x :: t, p => if x.1 ≤ p ∧ p < x.1 + x.2.2 then some (x.2.1 + p - x.1) else if x.2.1 ≤ p ∧ p < x.2.1 + x.2.2 then some (x.1 + p - x.2.1) else pgR t p
def oI : Option Int → V
  | none => .non
  | some i => .int i
theorem drop_at {α : Type} {l : List α} {i : Nat} {x : α} (h : l[i]? = some x) : l.drop i = x :: l.drop (i + 1) := by
  obtain ⟨hi, e⟩ := List.getElem?_eq_some_iff.mp h
  rw [List.drop_eq_getElem_cons hi, e]
def blR (rs : List Run) : List Blk := boR rs none 0 [] []
theorem Rngs.butB {H H' : Hp} {D a : Addr} {acc : List V} {R : List Rg} (hD : H D = some (.lst acc)) (n : a ≠ D) (s : But D H H') (h : Rngs H a R) : Rngs H' a R := by
  obtain ⟨xs, hx, hp⟩ := h
  refine ⟨xs, s _ _ n hx, Paired.imp (fun v p z => ?_) hp⟩
  obtain ⟨t, e, ht⟩ := z
  exact ⟨t, e, s _ _ (ne_of ht hD (by intro q; cases q)) ht⟩
theorem Runs.butB {H H' : Hp} {D a : Addr} {acc : List V} {R : List Run} (hD : H D = some (.lst acc)) (n : a ≠ D) (s : But D H H') (h : Runs H a R) : Runs H' a R := by
  obtain ⟨xs, hx, hp⟩ := h
  refine ⟨xs, s _ _ n hx, Paired.imp (fun v p z => ?_) hp⟩
  obtain ⟨t, e, ht⟩ := z
  exact ⟨t, e, s _ _ (ne_of ht hD (by intro q; cases q)) ht⟩
theorem StV.butB {H H' : Hp} {D : Addr} {acc : List V} {v : V} {st : Option Run} (hD : H D = some (.lst acc)) (s : But D H H') (h : StV H v st) : StV H' v st := by
  cases st with
  | none => exact h
  | some r =>
    obtain ⟨t, e, ht⟩ := h
    exact ⟨t, e, s _ _ (ne_of ht hD (by intro q; cases q)) ht⟩
/-- what was there before stays, whatever is done to a list that is new -/
theorem Same.butB {H H1 H' : Hp} {D : Addr} (n : H D = none) (s : Same H H1) (b : But D H1 H') : Same H H' := fun a o e => b _ _ (ne_of_none e n) (s _ _ e)
section
variable {P : Program} {w : World} {K : PySem.W.Frag} {mg : Str → Option Value} {base : Heap}
/-! partner_in: slots 0:blocks 1:position 2:first 3:second 4:count -/
abbrev s_partner_in : Stmt := topS 39
theorem sc_partner_in : FnScope ["blocks", "position", "first", "second", "count"] ["blocks", "position"] (defScope s_partner_in) := ⟨rfl, rfl, rfl, by decide +kernel, rfl, by decide +kernel, by decide +kernel⟩
def sp_partner_in : Sp := fun vs H Q _ => ∃ (a : Addr) (B : List Blk) (m : Int), vs = [.ref a, .int m] ∧ Blks H a B ∧ Q (oI (pgR B m)) H
theorem ok_partner_in (D : Df K mg "partner_in" s_partner_in) : Has P w K mg base 1 "partner_in" ["blocks", "position"] sp_partner_in := by
  refine has_of D sc_partner_in (fun _ _ _ _ _ _ us hl => match us, hl with | [_, _], _ => rfl) (fun vs H Q E h => ?_) (fun f cdv A outer s₀ H vs Q E hr h => ?_)
  · obtain ⟨a, R, n, rfl, _⟩ := h
    rfl
  · obtain ⟨a, B, m, rfl, ⟨xs, hx, hpr⟩, q⟩ := h
    refine ⟨_, (pss_cons (ps_for PassesOwn.never rfl (pi_list (pv 0)) (pg_tup rfl (pgs_cons (pg_name (i := 2) sc_partner_in.nd rfl (by first | exact Or.inl rfl | exact Or.inr rfl)) (pgs_cons (pg_name (i := 3) sc_partner_in.nd rfl (by first | exact Or.inl rfl | exact Or.inr rfl)) (pgs_cons (pg_name (i := 4) sc_partner_in.nd rfl (by first | exact Or.inl rfl | exact Or.inr rfl)) pgs_nil))))
      (C8.pss_cut (ps_if (pt_chain op_le op_lt (pv 2) (pv 1) (pe_op op_add (pv 2) (pv 4))) (pss_one (ps_ret (pe_op op_sub (pe_op op_add (pv 3) (pv 1)) (pv 2)))) pss_nil)
    (pss_one (ps_if (pt_chain op_le op_lt (pv 3) (pv 1) (pe_op op_add (pv 3) (pv 4))) (pss_one (ps_ret (pe_op op_sub (pe_op op_add (pv 2) (pv 1)) (pv 3)))) pss_nil))))
    (pss_one (ps_ret pe_non))), ?_⟩
    have lx : xs.length = B.length := Paired.len hpr
    refine ⟨_, rfl, a, rfl, ⟨xs, .of hx⟩, for_list (K := K) (a := a) (xs := xs) (fun i σ H' => ∃ y3 y4 y5, σ = [some (.ref a), some (.int m), y3, y4, y5] ∧ H' = H ∧ pgR B m = pgR (B.drop i) m)
      ⟨none, none, none, rfl, rfl, rfl⟩ (fun i σ H' _ hP => ?_) (fun i x σ H4 ex hP => ?_) (fun σ H4 hP => ?_)⟩
    · obtain ⟨_, _, _, _, rfl, _⟩ := hP
      exact .of hx
    · obtain ⟨y3, y4, y5, rfl, rfl, eq⟩ := hP
      obtain ⟨k, ek, ⟨t, rfl, ht⟩⟩ := Paired.at hpr ex
      have ed : B.drop i = k :: B.drop (i + 1) := drop_at ek
      rw [ed] at eq
      refine ⟨t, _, rfl, .of ht, rfl, _, _, rfl, _, _, rfl, _, _, rfl, rfl, ?_⟩
      have done : ∀ z : Option Int, pgR B m = z → Q (oI z) H4 := fun z e => by
        rw [← e]
        exact q
      have e0 : pgR (k :: B.drop (i + 1)) m = if k.1 ≤ m ∧ m < k.1 + k.2.2 then some (k.2.1 + m - k.1) else if k.2.1 ≤ m ∧ m < k.2.1 + k.2.2 then some (k.1 + m - k.2.1) else pgR (B.drop (i + 1)) m := rfl
      refine ⟨fun σ' H' => σ' = [some (.ref a), some (.int m), some (.int k.1), some (.int k.2.1), some (.int k.2.2)] ∧ H' = H4 ∧ ¬ (k.1 ≤ m ∧ m < k.1 + k.2.2), ?_, fun σ' H6 hM => ?_⟩
      · by_cases c1 : k.1 ≤ m ∧ m < k.1 + k.2.2
        · rw [e0, if_pos c1] at eq
          refine ⟨_, rfl, _, rfl, _, _, rfl, rfl, _, rfl, iteP (decide_eq_true c1.1) ⟨_, rfl, _, rfl, _, _, rfl, rfl, _, _, rfl, rfl, _, rfl, iteP (decide_eq_true c1.2) ?_⟩⟩
          exact ⟨_, rfl, _, rfl, _, _, rfl, rfl, _, rfl, _, _, rfl, rfl, done _ eq⟩
        · by_cases c2 : k.1 ≤ m
          · exact ⟨_, rfl, _, rfl, _, _, rfl, rfl, _, rfl, iteP (decide_eq_true c2) ⟨_, rfl, _, rfl, _, _, rfl, rfl, _, _, rfl, rfl, _, rfl, iteN (decide_eq_false fun z => c1 ⟨c2, z⟩) ⟨rfl, rfl, c1⟩⟩⟩
          · exact ⟨_, rfl, _, rfl, _, _, rfl, rfl, _, rfl, iteN (decide_eq_false c2) ⟨_, rfl, iteF ⟨rfl, rfl, c1⟩⟩⟩
      · obtain ⟨rfl, rfl, c1⟩ := hM
        rw [e0, if_neg c1] at eq
        by_cases c1 : k.2.1 ≤ m ∧ m < k.2.1 + k.2.2
        · rw [if_pos c1] at eq
          refine ⟨_, rfl, _, rfl, _, _, rfl, rfl, _, rfl, iteP (decide_eq_true c1.1) ⟨_, rfl, _, rfl, _, _, rfl, rfl, _, _, rfl, rfl, _, rfl, iteP (decide_eq_true c1.2) ?_⟩⟩
          exact ⟨_, rfl, _, rfl, _, _, rfl, rfl, _, rfl, _, _, rfl, rfl, done _ eq⟩
        · rw [if_neg c1] at eq
          by_cases c2 : k.2.1 ≤ m
          · exact ⟨_, rfl, _, rfl, _, _, rfl, rfl, _, rfl, iteP (decide_eq_true c2) ⟨_, rfl, _, rfl, _, _, rfl, rfl, _, _, rfl, rfl, _, rfl, iteN (decide_eq_false fun z => c1 ⟨c2, z⟩) ⟨_, _, _, rfl, rfl, eq⟩⟩⟩
          · exact ⟨_, rfl, _, rfl, _, _, rfl, rfl, _, rfl, iteN (decide_eq_false c2) ⟨_, rfl, iteF ⟨_, _, _, rfl, rfl, eq⟩⟩⟩
    · obtain ⟨y3, y4, y5, rfl, rfl, eq⟩ := hP
      rw [lx, List.drop_length] at eq
      have := q
      rw [eq] at this
      exact this
end
end UP

set_option Elab.async false
set_option linter.all false
set_option maxRecDepth 100000
set_option maxHeartbeats 4000000
namespace UP
open PySem PySem.Spec PyProof.Rows L2
/-! ### pairs written out -/
abbrev Pr := Int × Int
def zpL : List Int → Int → List Pr
  | [], _ => []
  | p :: t, b => (p, b) :: zpL t (b + 1)
theorem zpL_app : ∀ (l m : List Int) (b : Int), zpL (l ++ m) b = zpL l b ++ zpL m (b + (l.length : Int))
  | [], m, b => by
    show zpL m b = zpL m (b + ((0 : Nat) : Int))
    rw [show b + ((0 : Nat) : Int) = b by omega]
  | p :: t, m, b => by
    show (p, b) :: zpL (t ++ m) (b + 1) = (p, b) :: (zpL t (b + 1) ++ zpL m (b + ((p :: t).length : Int)))
    rw [zpL_app t m, List.length_cons, show b + 1 + (t.length : Int) = b + ((t.length + 1 : Nat) : Int) by omega]
def flX (x : Blk) : List Pr := zpL (posL x.1 x.2.2.toNat) x.2.1
def flB (B : List Blk) : List Pr := B.flatMap flX
theorem flB_app (B C : List Blk) : flB (B ++ C) = flB B ++ flB C := List.flatMap_append ..
theorem flB_one (x : Blk) : flB [x] = flX x := by
  show flX x ++ [] = _
  rw [List.append_nil]
def PosB (B : List Blk) : Prop := ∀ x ∈ B, 0 < x.2.2
theorem posL_take : ∀ (n k : Nat) (a : Int), k ≤ n → (posL a n).take k = posL a k := by
  intro n k a h
  have e : n = k + (n - k) := by omega
  rw [e, posL_app, List.take_append_of_le_length (by rw [posL_len]; exact Nat.le_refl _), List.take_of_length_le (by rw [posL_len]; exact Nat.le_refl _)]
theorem fl_br {c : Int} : ∀ {R : List Rg} {b n : Int}, Gd R c → 0 ≤ n → flB (brR R b n) = zpL ((flR R).take n.toNat) b
  | [], b, n, _, _ => by
    show ([] : List Pr) = zpL (([] : List Int).take _) b
    rw [List.take_nil]
    rfl
  | p :: t, b, n, g, hn => by
    have g1 := g.1
    have h := rm_le (p := p) g1 hn
    have ih := fl_br (b := b + rmR p n) (n := n - rmR p n) g.2.2.2 (by omega)
    show flB (brP p b n ++ brR t (b + rmR p n) (n - rmR p n)) = zpL ((flP p ++ flR t).take n.toNat) b
    have lp : (flP p).length = (p.2 - p.1 + 1).toNat := posL_len _ _
    have e1 : flB (brP p b n) = zpL (posL p.1 (rmR p n).toNat) b := by
      by_cases c : 0 < rmR p n
      · rw [show brP p b n = [(p.1, b, rmR p n)] from if_pos c, flB_one]
        rfl
      · rw [show brP p b n = [] from if_neg c, show (rmR p n).toNat = 0 by omega]
        rfl
    rw [flB_app, ih, e1, List.take_append, zpL_app, lp]
    have e2 : (flP p).take n.toNat = posL p.1 (rmR p n).toNat := by
      by_cases c : rmR p n < p.2 - p.1 + 1
      · have e := h.2.2.2 c
        unfold flP
        rw [posL_take _ _ _ (by omega), e]
      · rw [List.take_of_length_le (by omega)]
        unfold flP
        rw [show (p.2 - p.1 + 1).toNat = (rmR p n).toNat by omega]
    rw [e2, posL_len, show ((rmR p n).toNat : Int) = rmR p n by omega, show (n - rmR p n).toNat = n.toNat - (p.2 - p.1 + 1).toNat by
      by_cases c : rmR p n < p.2 - p.1 + 1
      · have e := h.2.2.2 c
        omega
      · omega]
theorem pos_brR : ∀ (R : List Rg) (b n : Int), PosB (brR R b n)
  | [], _, _ => fun x h => by cases h
  | p :: t, b, n => by
    intro x hx
    rcases List.mem_append.mp (show x ∈ brP p b n ++ brR t (b + rmR p n) (n - rmR p n) from hx) with z | z
    · by_cases c : 0 < rmR p n
      · rw [show brP p b n = [(p.1, b, rmR p n)] from if_pos c] at z
        rw [List.mem_singleton.mp z]
        exact c
      · rw [show brP p b n = [] from if_neg c] at z
        cases z
    · exact pos_brR t _ _ x z
theorem addB_cases (B : List Blk) (x : Blk) : addB B x = B ++ [x] ∨ ∃ B0 l, B = B0 ++ [l] ∧ l.1 + l.2.2 = x.1 ∧ l.2.1 + l.2.2 = x.2.1 ∧ addB B x = B0 ++ [(l.1, l.2.1, l.2.2 + x.2.2)] := by
  rcases shaped_not (B := B) with e | ⟨B0, l, e⟩
  · subst e
    exact .inl rfl
  · subst e
    by_cases c : l.1 + l.2.2 = x.1 ∧ l.2.1 + l.2.2 = x.2.1
    · refine .inr ⟨B0, l, rfl, c.1, c.2, ?_⟩
      unfold addB
      rw [List.getLast?_concat, List.dropLast_concat]
      exact if_pos c
    · refine .inl ?_
      unfold addB
      rw [List.getLast?_concat]
      exact if_neg c
theorem fl_add {B : List Blk} {x : Blk} (h : PosB B) (hx : 0 < x.2.2) : flB (addB B x) = flB B ++ flX x ∧ PosB (addB B x) := by
  rcases addB_cases B x with e | ⟨B0, l, e0, c1, c2, e⟩
  · rw [e, flB_app, flB_one]
    refine ⟨rfl, fun y hy => ?_⟩
    rcases List.mem_append.mp hy with z | z
    · exact h y z
    · rw [List.mem_singleton.mp z]
      exact hx
  · subst e0
    have hl : 0 < l.2.2 := h l (List.mem_append.mpr (.inr (List.mem_singleton.mpr rfl)))
    rw [e]
    refine ⟨?_, fun y hy => ?_⟩
    · rw [flB_app, flB_app, flB_one, flB_one, List.append_assoc]
      congr 1
      show zpL (posL l.1 (l.2.2 + x.2.2).toNat) l.2.1 = zpL (posL l.1 l.2.2.toNat) l.2.1 ++ zpL (posL x.1 x.2.2.toNat) x.2.1
      rw [show (l.2.2 + x.2.2).toNat = l.2.2.toNat + x.2.2.toNat by omega, posL_app, zpL_app, posL_len, show ((l.2.2.toNat : Nat) : Int) = l.2.2 by omega, c1, c2]
    · rcases List.mem_append.mp hy with z | z
      · exact h y (List.mem_append.mpr (.inl z))
      · rw [List.mem_singleton.mp z]
        show 0 < l.2.2 + x.2.2
        omega
theorem fl_adds : ∀ (xs B : List Blk), PosB B → PosB xs → flB (addsB B xs) = flB B ++ flB xs ∧ PosB (addsB B xs)
  | [], B, h, _ => by
    refine ⟨?_, h⟩
    show flB B = flB B ++ []
    rw [List.append_nil]
  | x :: t, B, h, hx => by
    obtain ⟨a1, a2⟩ := fl_add (x := x) h (hx x (List.mem_cons_self ..))
    obtain ⟨b1, b2⟩ := fl_adds t (addB B x) a2 fun y hy => hx y (List.mem_cons_of_mem _ hy)
    refine ⟨?_, b2⟩
    show flB (addsB (addB B x) t) = flB B ++ (flX x ++ flB t)
    rw [b1, a1, List.append_assoc]
/-! ### the pairs of a run -/
theorem psR_app : ∀ (l m : List Str) (ws : List Run) (n : Nat), psR ws n (l ++ m) = psR ws n l ++ psR (plA ws n l) (n + l.length) m
  | [], m, ws, n => rfl
  | k :: t, m, ws, n => by
    show plP ws k n ++ psR (plS ws k n) (n + 1) (t ++ m) = (plP ws k n ++ psR (plS ws k n) (n + 1) t) ++ psR (plA (plS ws k n) (n + 1) t) (n + (k :: t).length) m
    rw [psR_app t m, List.length_cons, List.append_assoc, show n + 1 + t.length = n + (t.length + 1) by omega]
theorem ps_same : ∀ (c : Nat) (ws : List Run) (n : Nat) (k : Str), (∀ r ∈ ws, r.1 = k) → psR ws n (List.replicate c k) = []
  | 0, _, _, _, _ => rfl
  | c + 1, ws, n, k, h => by
    have e : plS ws k n = ws ++ [(k, (n : Int))] ∧ plP ws k n = [] := by
      cases ws with
      | nil => exact ⟨rfl, rfl⟩
      | cons r t => exact ⟨if_pos (h r (List.mem_cons_self ..)), if_pos (h r (List.mem_cons_self ..))⟩
    show plP ws k n ++ psR (plS ws k n) (n + 1) (List.replicate c k) = []
    rw [e.1, e.2, ps_same c _ (n + 1) k (fun r hr => by
      rcases List.mem_append.mp hr with z | z
      · exact h r z
      · rw [List.mem_singleton.mp z])]
    rfl
theorem ps_other : ∀ (c : Nat) (ws : List Run) (n : Nat) (k : Str), (∀ r ∈ ws, r.1 ≠ k) → psR ws n (List.replicate c k) = zpL ((psW ws).take c) (n : Int)
  | 0, ws, n, k, _ => rfl
  | c + 1, [], n, k, _ => by
    rw [ps_same (c + 1) [] n k (fun r h => by cases h)]
    rfl
  | c + 1, r :: t, n, k, h => by
    have hr := h r (List.mem_cons_self ..)
    have e1 : plS (r :: t) k n = t := if_neg hr
    have e2 : plP (r :: t) k n = [(r.2, (n : Int))] := if_neg hr
    show plP (r :: t) k n ++ psR (plS (r :: t) k n) (n + 1) (List.replicate c k) = (r.2, (n : Int)) :: zpL ((psW t).take c) ((n : Int) + 1)
    rw [e1, e2, ps_other c t (n + 1) k fun x hx => h x (List.mem_cons_of_mem _ hx)]
    rfl
theorem pairs_run {ws : List Run} {R : List Rg} {n : Nat} {r : Run} {b : Int} (u : Uni ws) (fl : flR R = psW ws) (g : Gd R b) (c1 : 1 ≤ r.2) : flB (brR R (n : Int) (leavR (toldR ws) r.1 r.2)) = psR ws n (List.replicate r.2.toNat r.1) := by
  cases ws with
  | nil =>
    rw [ps_same _ [] n r.1 (fun r h => by cases h), fl_br g (by show (0 : Int) ≤ 0; omega)]
    rfl
  | cons y t =>
    by_cases e : y.1 = r.1
    · have all : ∀ x ∈ y :: t, x.1 = r.1 := fun x hx => (u x hx y (List.mem_cons_self ..)).trans e
      have lv : leavR (toldR (y :: t)) r.1 r.2 = 0 := if_pos e
      rw [lv, ps_same _ _ n r.1 all, fl_br g (Int.le_refl _)]
      rfl
    · have all : ∀ x ∈ y :: t, x.1 ≠ r.1 := fun x hx z => e ((u y (List.mem_cons_self ..) x hx).trans z)
      have lv : leavR (toldR (y :: t)) r.1 r.2 = if r.2 < ((y :: t).length : Int) then r.2 else ((y :: t).length : Int) := if_neg e
      have lp : (psW (y :: t)).length = (y :: t).length := List.length_map _
      rw [ps_other _ _ n r.1 all, lv]
      by_cases q : r.2 < ((y :: t).length : Int)
      · rw [if_pos q, fl_br g (by omega), fl]
      · rw [if_neg q, fl_br g (by omega), fl, List.take_of_length_le (by omega), List.take_of_length_le (by omega)]
theorem all_pairs : ∀ (rs : List Run) (ws : List Run) (R : List Rg) (n : Nat) (B : List Blk), Uni ws → flR R = psW ws → Gd R (n : Int) → (∀ r ∈ rs, 1 ≤ r.2) → Alt rs → (∀ l, R.getLast? = some l → l.2 = (n : Int) - 1 → ∀ x r, toldR ws = some x → rs.head? = some r → x.1 ≠ r.1) → PosB B →
    flB (boR rs (toldR ws) (n : Int) R B) = flB B ++ psR ws n (itR rs) ∧ PosB (boR rs (toldR ws) (n : Int) R B)
  | [], ws, R, n, B, _, _, _, _, _, _, hB => by
    refine ⟨?_, hB⟩
    show flB B = flB B ++ []
    rw [List.append_nil]
  | r :: t, ws, R, n, B, u, fl, g, k, alt, bd, hB => by
    have c1 := k r (List.mem_cons_self ..)
    obtain ⟨h1, h2, h3⟩ := one_run (r := r) u fl g c1 fun l hl hz x hx => bd l hl hz x r hx rfl
    obtain ⟨a1, a2⟩ := fl_adds (brR R (n : Int) (leavR (toldR ws) r.1 r.2)) B hB (pos_brR _ _ _)
    rw [pairs_run u fl g c1] at a1
    have e : itR (r :: t) = List.replicate r.2.toNat r.1 ++ itR t := rfl
    have cn : ((n + r.2.toNat : Nat) : Int) = (n : Int) + r.2 := by omega
    have told' : toldR (plA ws n (List.replicate r.2.toNat r.1)) = stepR (toldR ws) r.1 r.2 := by
      have nn : PosO (toldR ws) := by
        intro x hx
        cases ws with
        | nil => cases hx
        | cons y t =>
          cases hx
          show 1 ≤ (((y :: t).length : Nat) : Int)
          rw [List.length_cons]
          omega
      obtain ⟨c, hc⟩ : ∃ c : Nat, r.2.toNat = c + 1 := ⟨r.2.toNat - 1, by omega⟩
      rw [told_plA _ _ _ u, hc, it_step c _ _ nn, show (c : Int) + 1 = r.2 by omega]
    have ih := all_pairs t (plA ws n (List.replicate r.2.toNat r.1)) _ (n + r.2.toNat) _ (uni_plA _ _ _ u) h1 (by rw [cn]; exact h2) (fun x hx => k x (List.mem_cons_of_mem _ hx)) (fun i x y hx hy => alt (i + 1) x y hx hy) (fun l hl hz x r' hx hr' => by
      have ex := h3 l hl (by omega) x hx
      rw [ex]
      refine alt 0 r r' rfl ?_
      cases t with
      | nil => cases hr'
      | cons y s => exact hr') a2
    rw [cn, told', a1] at ih
    rw [e, psR_app, List.length_replicate, ← List.append_assoc]
    exact ih
theorem whole_pairs {rs : List Run} (k : ∀ r ∈ rs, 1 ≤ r.2) (a : Alt rs) : flB (blR rs) = psR [] 0 (itR rs) ∧ PosB (blR rs) := by
  obtain ⟨h1, h2⟩ := all_pairs rs [] [] 0 [] (fun x hx => by cases hx) rfl trivial k a (fun l hl => by cases hl) (fun x hx => by cases hx)
  exact ⟨h1, h2⟩
/-! ### every position once -/
theorem ps_perm : ∀ (ks : List Str) (ws : List Run) (n : Nat), ((psR ws n ks).map (·.1) ++ ((psR ws n ks).map (·.2) ++ psW (plA ws n ks))).Perm (psW ws ++ posL (n : Int) ks.length)
  | [], ws, n => by
    show (([] : List Int) ++ ([] ++ psW ws)).Perm (psW ws ++ [])
    rw [List.append_nil]
    exact .refl _
  | k :: t, ws, n => by
    have ih := ps_perm t (plS ws k n) (n + 1)
    have eL : posL (n : Int) (k :: t).length = (n : Int) :: posL ((n + 1 : Nat) : Int) t.length := rfl
    rw [eL]
    cases ws with
    | nil => exact ih
    | cons r u =>
      by_cases e : r.1 = k
      · have e1 : plS (r :: u) k n = (r :: u) ++ [(k, (n : Int))] := if_pos e
        have e2 : psR (r :: u) n (k :: t) = psR (plS (r :: u) k n) (n + 1) t := by
          show plP (r :: u) k n ++ _ = _
          rw [show plP (r :: u) k n = [] from if_pos e]
          rfl
        rw [e2]
        show (_ ++ (_ ++ psW (plA (plS (r :: u) k n) (n + 1) t))).Perm _
        have e3 : psW (plS (r :: u) k n) ++ posL ((n + 1 : Nat) : Int) t.length = psW (r :: u) ++ (n : Int) :: posL ((n + 1 : Nat) : Int) t.length := by
          rw [e1]
          unfold psW
          rw [List.map_append, List.append_assoc]
          rfl
        rw [← e3]
        exact ih
      · have e1 : plS (r :: u) k n = u := if_neg e
        have e2 : psR (r :: u) n (k :: t) = (r.2, (n : Int)) :: psR (plS (r :: u) k n) (n + 1) t := by
          show plP (r :: u) k n ++ _ = _
          rw [show plP (r :: u) k n = [(r.2, (n : Int))] from if_neg e]
          rfl
        rw [e2]
        show (_ ++ (_ ++ psW (plA (plS (r :: u) k n) (n + 1) t))).Perm _
        rw [e1] at ih ⊢
        rw [List.map_cons, List.map_cons]
        show (r.2 :: ((psR u (n + 1) t).map (·.1) ++ ((n : Int) :: ((psR u (n + 1) t).map (·.2) ++ psW (plA u (n + 1) t))))).Perm (r.2 :: (psW u ++ (n : Int) :: posL ((n + 1 : Nat) : Int) t.length))
        exact .cons _ (List.perm_middle.trans ((List.Perm.cons _ ih).trans List.perm_middle.symm))
theorem posL_ge : ∀ (n : Nat) (a : Int), ∀ x ∈ posL a n, a ≤ x ∧ x < a + (n : Int)
  | 0, _, x, h => by cases h
  | n + 1, a, x, h => by
    rcases List.mem_cons.mp (show x ∈ a :: posL (a + 1) n from h) with z | z
    · omega
    · have := posL_ge n (a + 1) x z
      omega
theorem posL_nodup : ∀ (n : Nat) (a : Int), (posL a n).Nodup
  | 0, _ => List.nodup_nil
  | n + 1, a => by
    refine List.nodup_cons.mpr ⟨fun h => ?_, posL_nodup n (a + 1)⟩
    have := posL_ge n (a + 1) a h
    omega
theorem ps_nodup (ks : List Str) : ((psR [] 0 ks).map (·.1) ++ ((psR [] 0 ks).map (·.2) ++ psW (plA [] 0 ks))).Nodup := by
  have h := ps_perm ks [] 0
  exact h.symm.nodup (posL_nodup _ _)
theorem ps_count (ks : List Str) : 2 * (psR [] 0 ks).length + (plA [] 0 ks).length = ks.length := by
  have h := (ps_perm ks [] 0).length_eq
  rw [List.length_append, List.length_append, List.length_map, List.length_map, List.length_append, posL_len] at h
  have e : (psW (plA [] 0 ks)).length = (plA [] 0 ks).length := List.length_map _
  have e2 : (psW ([] : List Run)).length = 0 := rfl
  omega
theorem ps_snd : ∀ (ks : List Str) (ws : List Run) (n : Nat), ∀ p ∈ psR ws n ks, (n : Int) ≤ p.2 ∧ p.2 < (n : Int) + (ks.length : Int)
  | [], _, _, p, h => by cases h
  | k :: t, ws, n, p, h => by
    rw [List.length_cons]
    rcases List.mem_append.mp (show p ∈ plP ws k n ++ psR (plS ws k n) (n + 1) t from h) with z | z
    · have e : p.2 = (n : Int) := by
        cases ws with
        | nil => cases z
        | cons r u =>
          have z : p ∈ (if r.1 = k then [] else [(r.2, (n : Int))]) := z
          by_cases c : r.1 = k
          · rw [if_pos c] at z
            cases z
          · rw [if_neg c] at z
            rw [List.mem_singleton.mp z]
      omega
    · have := ps_snd t _ (n + 1) p z
      omega
theorem ps_filter (ks : List Str) (m : Nat) (h : m ≤ ks.length) : (psR [] 0 ks).filter (fun p => decide (p.2 < (m : Int))) = psR [] 0 (ks.take m) := by
  have e : psR [] 0 ks = psR [] 0 (ks.take m) ++ psR (plA [] 0 (ks.take m)) m (ks.drop m) := by
    have := psR_app (ks.take m) (ks.drop m) [] 0
    rw [List.take_append_drop, List.length_take, Nat.zero_add, Nat.min_eq_left h] at this
    exact this
  rw [e, List.filter_append]
  have f1 : (psR [] 0 (ks.take m)).filter (fun p => decide (p.2 < (m : Int))) = psR [] 0 (ks.take m) := by
    refine List.filter_eq_self.mpr fun p hp => decide_eq_true ?_
    have := ps_snd _ _ _ p hp
    rw [List.length_take] at this
    omega
  have f2 : (psR (plA [] 0 (ks.take m)) m (ks.drop m)).filter (fun p => decide (p.2 < (m : Int))) = [] := by
    refine List.filter_eq_nil_iff.mpr fun p hp z => ?_
    have := ps_snd _ _ _ p hp
    have := of_decide_eq_true z
    omega
  rw [f1, f2, List.append_nil]
theorem map_inj {α β : Type} {f : α → β} : ∀ {l : List α}, (l.map f).Nodup → ∀ {a b : α}, a ∈ l → b ∈ l → f a = f b → a = b
  | x :: t, h, a, b, ha, hb, e => by
    have h := List.nodup_cons.mp (show (f x :: t.map f).Nodup from h)
    rcases List.mem_cons.mp ha with h1 | h1
    · rcases List.mem_cons.mp hb with h2 | h2
      · rw [h1, h2]
      · exact absurd (List.mem_map.mpr ⟨b, h2, by rw [← e, h1]⟩) h.1
    · rcases List.mem_cons.mp hb with h2 | h2
      · exact absurd (List.mem_map.mpr ⟨a, h1, by rw [e, h2]⟩) h.1
      · exact map_inj h.2 h1 h2 e
/-- each position stands in one pair at most -/
structure U (P : List Pr) : Prop where
  fst : ∀ p ∈ P, ∀ q ∈ P, p.1 = q.1 → p = q
  snd : ∀ p ∈ P, ∀ q ∈ P, p.2 = q.2 → p = q
  dis : ∀ p ∈ P, ∀ q ∈ P, p.1 ≠ q.2
theorem u_ps (ks : List Str) : U (psR [] 0 ks) := by
  have h := ps_nodup ks
  obtain ⟨h1, h2, h3⟩ := List.nodup_append.mp h
  obtain ⟨h4, _, _⟩ := List.nodup_append.mp h2
  refine ⟨fun p hp q hq e => map_inj h1 hp hq e, fun p hp q hq e => map_inj h4 hp hq e, fun p hp q hq e => ?_⟩
  exact h3 _ (List.mem_map.mpr ⟨p, hp, rfl⟩) _ (List.mem_append.mpr (.inl (List.mem_map.mpr ⟨q, hq, rfl⟩))) e
theorem mem_zp : ∀ (n : Nat) (a b : Int) (p : Pr), p ∈ zpL (posL a n) b ↔ a ≤ p.1 ∧ p.1 < a + (n : Int) ∧ p.2 = b + p.1 - a
  | 0, a, b, p => by
    constructor
    · intro h
      cases h
    · intro h
      omega
  | n + 1, a, b, p => by
    have ih := mem_zp n (a + 1) (b + 1) p
    show p ∈ (a, b) :: zpL (posL (a + 1) n) (b + 1) ↔ _
    rw [List.mem_cons, ih]
    constructor
    · rintro (h | h)
      · rw [h]
        show a ≤ a ∧ a < a + ((n + 1 : Nat) : Int) ∧ b = b + a - a
        omega
      · omega
    · intro h
      by_cases c : p.1 = a
      · exact .inl (Prod.ext c (by show p.2 = b; omega))
      · exact .inr (by omega)
theorem mem_fl {x : Blk} (h : 0 < x.2.2) (p : Pr) : p ∈ flX x ↔ x.1 ≤ p.1 ∧ p.1 < x.1 + x.2.2 ∧ p.2 = x.2.1 + p.1 - x.1 := by
  unfold flX
  rw [mem_zp, show ((x.2.2.toNat : Nat) : Int) = x.2.2 by omega]
theorem pg_first : ∀ (B : List Blk) (p : Pr), PosB B → U (flB B) → p ∈ flB B → pgR B p.1 = some p.2
  | [], p, _, _, h => by cases h
  | x :: t, p, hB, u, h => by
    have hx := hB x (List.mem_cons_self ..)
    have mx := mem_fl hx
    show (if x.1 ≤ p.1 ∧ p.1 < x.1 + x.2.2 then some (x.2.1 + p.1 - x.1) else if x.2.1 ≤ p.1 ∧ p.1 < x.2.1 + x.2.2 then some (x.1 + p.1 - x.2.1) else pgR t p.1) = _
    by_cases c1 : x.1 ≤ p.1 ∧ p.1 < x.1 + x.2.2
    · rw [if_pos c1]
      have m : ((p.1, x.2.1 + p.1 - x.1) : Pr) ∈ flB (x :: t) := List.mem_append.mpr (.inl ((mx _).mpr ⟨c1.1, c1.2, rfl⟩))
      rw [← u.fst _ m _ h rfl]
    · rw [if_neg c1]
      by_cases c2 : x.2.1 ≤ p.1 ∧ p.1 < x.2.1 + x.2.2
      · have m : ((x.1 + p.1 - x.2.1, p.1) : Pr) ∈ flB (x :: t) := List.mem_append.mpr (.inl ((mx _).mpr ⟨by show x.1 ≤ x.1 + p.1 - x.2.1; omega, by show x.1 + p.1 - x.2.1 < _; omega, by show p.1 = x.2.1 + (x.1 + p.1 - x.2.1) - x.1; omega⟩))
        exact absurd rfl (u.dis _ h _ m)
      · rw [if_neg c2]
        rcases List.mem_append.mp (show p ∈ flX x ++ flB t from h) with z | z
        · have := (mx p).mp z
          exact absurd ⟨this.1, this.2.1⟩ c1
        · exact pg_first t p (fun y hy => hB y (List.mem_cons_of_mem _ hy)) ⟨fun a ha b hb => u.fst a (List.mem_append.mpr (.inr ha)) b (List.mem_append.mpr (.inr hb)), fun a ha b hb => u.snd a (List.mem_append.mpr (.inr ha)) b (List.mem_append.mpr (.inr hb)), fun a ha b hb => u.dis a (List.mem_append.mpr (.inr ha)) b (List.mem_append.mpr (.inr hb))⟩ z
theorem pg_second : ∀ (B : List Blk) (p : Pr), PosB B → U (flB B) → p ∈ flB B → pgR B p.2 = some p.1
  | [], p, _, _, h => by cases h
  | x :: t, p, hB, u, h => by
    have hx := hB x (List.mem_cons_self ..)
    have mx := mem_fl hx
    show (if x.1 ≤ p.2 ∧ p.2 < x.1 + x.2.2 then some (x.2.1 + p.2 - x.1) else if x.2.1 ≤ p.2 ∧ p.2 < x.2.1 + x.2.2 then some (x.1 + p.2 - x.2.1) else pgR t p.2) = _
    by_cases c1 : x.1 ≤ p.2 ∧ p.2 < x.1 + x.2.2
    · have m : ((p.2, x.2.1 + p.2 - x.1) : Pr) ∈ flB (x :: t) := List.mem_append.mpr (.inl ((mx _).mpr ⟨c1.1, c1.2, rfl⟩))
      exact absurd rfl (u.dis _ m _ h)
    · rw [if_neg c1]
      by_cases c2 : x.2.1 ≤ p.2 ∧ p.2 < x.2.1 + x.2.2
      · have m : ((x.1 + p.2 - x.2.1, p.2) : Pr) ∈ flB (x :: t) := List.mem_append.mpr (.inl ((mx _).mpr ⟨by show x.1 ≤ x.1 + p.2 - x.2.1; omega, by show x.1 + p.2 - x.2.1 < _; omega, by show p.2 = x.2.1 + (x.1 + p.2 - x.2.1) - x.1; omega⟩))
        rw [if_pos c2, ← u.snd _ m _ h rfl]
      · rw [if_neg c2]
        rcases List.mem_append.mp (show p ∈ flX x ++ flB t from h) with z | z
        · have := (mx p).mp z
          exact absurd ⟨by omega, by omega⟩ c2
        · exact pg_second t p (fun y hy => hB y (List.mem_cons_of_mem _ hy)) ⟨fun a ha b hb => u.fst a (List.mem_append.mpr (.inr ha)) b (List.mem_append.mpr (.inr hb)), fun a ha b hb => u.snd a (List.mem_append.mpr (.inr ha)) b (List.mem_append.mpr (.inr hb)), fun a ha b hb => u.dis a (List.mem_append.mpr (.inr ha)) b (List.mem_append.mpr (.inr hb))⟩ z
theorem pg_none : ∀ (B : List Blk) (m : Int), PosB B → (∀ p ∈ flB B, p.1 ≠ m ∧ p.2 ≠ m) → pgR B m = none
  | [], _, _, _ => rfl
  | x :: t, m, hB, h => by
    have hx := hB x (List.mem_cons_self ..)
    have mx := mem_fl hx
    show (if x.1 ≤ m ∧ m < x.1 + x.2.2 then some (x.2.1 + m - x.1) else if x.2.1 ≤ m ∧ m < x.2.1 + x.2.2 then some (x.1 + m - x.2.1) else pgR t m) = _
    by_cases c1 : x.1 ≤ m ∧ m < x.1 + x.2.2
    · have := h ((m, x.2.1 + m - x.1) : Pr) (List.mem_append.mpr (.inl ((mx _).mpr ⟨c1.1, c1.2, rfl⟩)))
      exact absurd rfl this.1
    · rw [if_neg c1]
      by_cases c2 : x.2.1 ≤ m ∧ m < x.2.1 + x.2.2
      · have := h ((x.1 + m - x.2.1, m) : Pr) (List.mem_append.mpr (.inl ((mx _).mpr ⟨by show x.1 ≤ x.1 + m - x.2.1; omega, by show x.1 + m - x.2.1 < _; omega, by show m = x.2.1 + (x.1 + m - x.2.1) - x.1; omega⟩)))
        exact absurd rfl this.2
      · rw [if_neg c2]
        exact pg_none t m (fun y hy => hB y (List.mem_cons_of_mem _ hy)) fun p hp => h p (List.mem_append.mpr (.inr hp))
end UP

set_option Elab.async false
set_option linter.all false
set_option maxRecDepth 100000
set_option maxHeartbeats 4000000
namespace UP
open PySem PySem.Spec PyProof.Rows L2
/-! ### dicts of pairs -/
theorem merge_hit {k : Key} {v : V} : ∀ (kvs acc : List (Key × V)), (∀ kv ∈ kvs, kv.1 = k → kv.2 = v) → (valV acc k = some v ∨ ∃ kv ∈ kvs, kv.1 = k) → valV (mergeK acc kvs) k = some v
  | [], acc, _, h => by
    rcases h with h | ⟨_, h, _⟩
    · exact h
    · cases h
  | x :: t, acc, hv, h => by
    show valV (mergeK (putK acc x.1 x.2) t) k = some v
    refine merge_hit t _ (fun kv hkv => hv kv (List.mem_cons_of_mem _ hkv)) ?_
    rw [valV_put]
    by_cases e : k = x.1
    · rw [if_pos e]
      exact .inl (by rw [hv x (List.mem_cons_self ..) e.symm])
    · rw [if_neg e]
      rcases h with h | ⟨kv, h, ek⟩
      · exact .inl h
      · rcases List.mem_cons.mp h with z | z
        · rw [z] at ek
          exact absurd ek.symm e
        · exact .inr ⟨kv, z, ek⟩
theorem merge_miss {k : Key} : ∀ (kvs acc : List (Key × V)), (∀ kv ∈ kvs, kv.1 ≠ k) → valV (mergeK acc kvs) k = valV acc k
  | [], acc, _ => rfl
  | x :: t, acc, hv => by
    show valV (mergeK (putK acc x.1 x.2) t) k = _
    rw [merge_miss t _ fun kv hkv => hv kv (List.mem_cons_of_mem _ hkv), valV_put, if_neg fun z => hv x (List.mem_cons_self ..) z.symm]
def kvP (P : List Pr) : List (Key × V) := P.map (fun p => (Sum.inl p.1, V.int p.2)) ++ P.map (fun p => (Sum.inl p.2, V.int p.1))
theorem mem_kvP {P : List Pr} {kv : Key × V} (h : kv ∈ kvP P) : ∃ p ∈ P, kv = (Sum.inl p.1, V.int p.2) ∨ kv = (Sum.inl p.2, V.int p.1) := by
  rcases List.mem_append.mp h with z | z
  · obtain ⟨p, hp, e⟩ := List.mem_map.mp z
    exact ⟨p, hp, .inl e.symm⟩
  · obtain ⟨p, hp, e⟩ := List.mem_map.mp z
    exact ⟨p, hp, .inr e.symm⟩
theorem inlI {a b : Int} (h : (Sum.inl a : Key) = Sum.inl b) : a = b := Sum.inl.inj h
/-- what the dict of the pairs says of a position -/
theorem dict_pairs {B : List Blk} {P : List Pr} (m : Int) (hB : PosB B) (e : flB B = P) (u : U P) : (valV (mergeK [] (kvP P)) (Sum.inl m)).getD .non = oI (pgR B m) := by
  subst e
  by_cases h1 : ∃ p ∈ flB B, p.1 = m
  · obtain ⟨p, hp, em⟩ := h1
    rw [← em, pg_first B p hB u hp, merge_hit (v := .int p.2) (kvP (flB B)) [] (fun kv hkv ek => ?_) (.inr ⟨(Sum.inl p.1, V.int p.2), List.mem_append.mpr (.inl (List.mem_map.mpr ⟨p, hp, rfl⟩)), rfl⟩)]
    · rfl
    · obtain ⟨q, hq, z | z⟩ := mem_kvP hkv
      · rw [z] at ek
        rw [z, u.fst q hq p hp (inlI ek)]
      · rw [z] at ek
        exact absurd (inlI ek).symm (u.dis p hp q hq)
  · by_cases h2 : ∃ p ∈ flB B, p.2 = m
    · obtain ⟨p, hp, em⟩ := h2
      rw [← em, pg_second B p hB u hp, merge_hit (v := .int p.1) (kvP (flB B)) [] (fun kv hkv ek => ?_) (.inr ⟨(Sum.inl p.2, V.int p.1), List.mem_append.mpr (.inr (List.mem_map.mpr ⟨p, hp, rfl⟩)), rfl⟩)]
      · rfl
      · obtain ⟨q, hq, z | z⟩ := mem_kvP hkv
        · rw [z] at ek
          exact absurd (inlI ek) (u.dis q hq p hp)
        · rw [z] at ek
          rw [z, u.snd q hq p hp (inlI ek)]
    · have no : ∀ p ∈ flB B, p.1 ≠ m ∧ p.2 ≠ m := fun p hp => ⟨fun z => h1 ⟨p, hp, z⟩, fun z => h2 ⟨p, hp, z⟩⟩
      rw [pg_none B m hB no, merge_miss (kvP (flB B)) [] fun kv hkv ek => ?_]
      · rfl
      · obtain ⟨q, hq, z | z⟩ := mem_kvP hkv
        · rw [z] at ek
          exact (no q hq).1 (inlI ek)
        · rw [z] at ek
          exact (no q hq).2 (inlI ek)
/-! ### the number of pairs -/
def pcR (rs : List Run) (m : Int) : Int := (m - numR (stR (cutR 0 m 0 rs) none)) / 2
theorem pos_none : PosO none := fun r h => by cases h
theorem pc_at {rs : List Run} {m : Nat} (k : ∀ r ∈ rs, 1 ≤ r.2) (h : m ≤ (itR rs).length) : pcR rs (m : Int) = ((psR [] 0 ((itR rs).take m)).length : Int) := by
  have e1 := at_moment (m := m) pos_none k
  have e2 := ps_count ((itR rs).take m)
  rw [List.length_take, Nat.min_eq_left h] at e2
  unfold pcR
  rw [e1, told_len]
  show ((m : Int) - ((plA [] 0 ((itR rs).take m)).length : Int)) / 2 = _
  omega
theorem dt_int {H : Hp} {n : Nat} {i : Int} : Dt H n (.int i) (.int i) := by
  cases n with
  | zero => exact .inr (.inr (.inl ⟨_, rfl, rfl⟩))
  | succ m => exact .inl (.inr (.inr (.inl ⟨_, rfl, rfl⟩)))
theorem dt_oI {H : Hp} {n : Nat} (z : Option Int) : ∃ d, Dt H n (oI z) d := by
  cases z with
  | none =>
    cases n with
    | zero => exact ⟨_, .inl ⟨rfl, rfl⟩⟩
    | succ m => exact ⟨_, .inl (.inl ⟨rfl, rfl⟩)⟩
  | some i => exact ⟨_, dt_int⟩
theorem dt_two {H : Hp} {a : Addr} {i j : Int} (h : H a = some (.lst [.int i, .int j])) : Dt H 2 (.ref a) (.list [.int i, .int j]) := .inr (.inl ⟨a, _, _, rfl, h, rfl, .cons dt_int (.cons dt_int .nil), Nat.le_of_ble_eq_true rfl⟩)
section
variable {P : Program} {w : World} {K : PySem.W.Frag} {mg : Str → Option Value} {base : Heap}
end
end UP

set_option Elab.async false
set_option linter.all false
set_option maxRecDepth 100000
set_option maxHeartbeats 4000000
namespace UP
open PySem PySem.Spec PyProof.Rows L2
def cntB (B : List Blk) : Int := (B.map (·.2.2)).sum
theorem cntB_cons (x : Blk) (t : List Blk) : cntB (x :: t) = x.2.2 + cntB t := by
  unfold cntB
  rw [List.map_cons, List.sum_cons]
theorem zpL_len : ∀ (l : List Int) (b : Int), (zpL l b).length = l.length
  | [], _ => rfl
  | _ :: t, b => congrArg Nat.succ (zpL_len t (b + 1))
theorem flX_len (x : Blk) : (flX x).length = x.2.2.toNat := by
  unfold flX
  rw [zpL_len, posL_len]
theorem cnt_fl : ∀ (B : List Blk), PosB B → cntB B = ((flB B).length : Int)
  | [], _ => rfl
  | x :: t, h => by
    have hx := h x (List.mem_cons_self ..)
    rw [cntB_cons, cnt_fl t fun y hy => h y (List.mem_cons_of_mem _ hy)]
    show _ = ((flX x ++ flB t).length : Int)
    rw [List.length_append, flX_len]
    omega
theorem zp_get : ∀ (n : Nat) (a b : Int) (i : Nat), i < n → (zpL (posL a n) b)[i]? = some (a + (i : Int), b + (i : Int))
  | 0, _, _, _, h => by omega
  | n + 1, a, b, 0, _ => by
    show some (a, b) = _
    rw [show a + ((0 : Nat) : Int) = a by omega, show b + ((0 : Nat) : Int) = b by omega]
  | n + 1, a, b, i + 1, h => by
    show (zpL (posL (a + 1) n) (b + 1))[i]? = _
    rw [zp_get n (a + 1) (b + 1) i (by omega), show a + 1 + (i : Int) = a + ((i + 1 : Nat) : Int) by omega, show b + 1 + (i : Int) = b + ((i + 1 : Nat) : Int) by omega]
section
variable {P : Program} {w : World} {K : PySem.W.Frag} {mg : Str → Option Value} {base : Heap}
end
end UP

set_option Elab.async false
set_option linter.all false
set_option maxRecDepth 100000
set_option maxHeartbeats 4000000
namespace UP
open PySem PySem.Spec PyProof.Rows L2
/-! ### blocks, pair by pair -/
def addU (B : List Blk) (P : List Pr) : List Blk := P.foldl (fun F p => addB F (p.1, p.2, 1)) B
theorem addB_nil (x : Blk) : addB [] x = [x] := rfl
theorem addB_join {B : List Blk} {l x : Blk} (h : l.1 + l.2.2 = x.1 ∧ l.2.1 + l.2.2 = x.2.1) : addB (B ++ [l]) x = B ++ [(l.1, l.2.1, l.2.2 + x.2.2)] := by
  unfold addB
  rw [List.getLast?_concat, List.dropLast_concat]
  exact if_pos h
theorem addB_new {B : List Blk} {l x : Blk} (h : ¬ (l.1 + l.2.2 = x.1 ∧ l.2.1 + l.2.2 = x.2.1)) : addB (B ++ [l]) x = (B ++ [l]) ++ [x] := by
  unfold addB
  rw [List.getLast?_concat]
  exact if_neg h
theorem add_add (B : List Blk) (a b k : Int) : addB (addB B (a, b, 1)) (a + 1, b + 1, k) = addB B (a, b, 1 + k) := by
  rcases shaped_not (B := B) with e | ⟨B0, l, e⟩
  · subst e
    exact addB_join (B := []) (l := (a, b, 1)) ⟨rfl, rfl⟩
  · subst e
    by_cases c : l.1 + l.2.2 = a ∧ l.2.1 + l.2.2 = b
    · rw [addB_join (x := (a, b, 1)) c, addB_join (x := (a, b, 1 + k)) c, addB_join (x := (a + 1, b + 1, k)) ⟨by show l.1 + (l.2.2 + 1) = a + 1; omega, by show l.2.1 + (l.2.2 + 1) = b + 1; omega⟩]
      show B0 ++ [(l.1, l.2.1, l.2.2 + 1 + k)] = B0 ++ [(l.1, l.2.1, l.2.2 + (1 + k))]
      rw [Int.add_assoc]
    · rw [addB_new (x := (a, b, 1)) c, addB_new (x := (a, b, 1 + k)) c]
      exact addB_join (B := B0 ++ [l]) (l := (a, b, 1)) ⟨rfl, rfl⟩
theorem unit_add : ∀ (c : Nat) (a b : Int) (B : List Blk), addU B (zpL (posL a (c + 1)) b) = addB B (a, b, (c : Int) + 1)
  | 0, a, b, B => rfl
  | c + 1, a, b, B => by
    show addU (addB B (a, b, 1)) (zpL (posL (a + 1) (c + 1)) (b + 1)) = _
    rw [unit_add c, add_add, show (1 : Int) + ((c : Int) + 1) = ((c + 1 : Nat) : Int) + 1 by omega]
theorem addU_app (B : List Blk) (P Q : List Pr) : addU B (P ++ Q) = addU (addU B P) Q := List.foldl_append ..
theorem adds_units : ∀ (xs B : List Blk), PosB xs → addsB B xs = addU B (flB xs)
  | [], _, _ => rfl
  | x :: t, B, h => by
    have hx := h x (List.mem_cons_self ..)
    obtain ⟨c, hc⟩ : ∃ c : Nat, x.2.2.toNat = c + 1 := ⟨x.2.2.toNat - 1, by omega⟩
    show addsB (addB B x) t = addU B (flX x ++ flB t)
    rw [addU_app, adds_units t _ fun y hy => h y (List.mem_cons_of_mem _ hy)]
    congr 1
    unfold flX
    rw [hc, unit_add, show (c : Int) + 1 = x.2.2 by omega]
theorem all_units : ∀ (rs : List Run) (ws : List Run) (R : List Rg) (n : Nat) (B : List Blk), Uni ws → flR R = psW ws → Gd R (n : Int) → (∀ r ∈ rs, 1 ≤ r.2) → Alt rs → (∀ l, R.getLast? = some l → l.2 = (n : Int) - 1 → ∀ x r, toldR ws = some x → rs.head? = some r → x.1 ≠ r.1) →
    boR rs (toldR ws) (n : Int) R B = addU B (psR ws n (itR rs))
  | [], ws, R, n, B, _, _, _, _, _, _ => rfl
  | r :: t, ws, R, n, B, u, fl, g, k, alt, bd => by
    have c1 := k r (List.mem_cons_self ..)
    obtain ⟨h1, h2, h3⟩ := one_run (r := r) u fl g c1 fun l hl hz x hx => bd l hl hz x r hx rfl
    have a1 := adds_units (brR R (n : Int) (leavR (toldR ws) r.1 r.2)) B (pos_brR _ _ _)
    rw [pairs_run u fl g c1] at a1
    have e : itR (r :: t) = List.replicate r.2.toNat r.1 ++ itR t := rfl
    have cn : ((n + r.2.toNat : Nat) : Int) = (n : Int) + r.2 := by omega
    have told' : toldR (plA ws n (List.replicate r.2.toNat r.1)) = stepR (toldR ws) r.1 r.2 := by
      have nn : PosO (toldR ws) := by
        intro x hx
        cases ws with
        | nil => cases hx
        | cons y t =>
          cases hx
          show 1 ≤ (((y :: t).length : Nat) : Int)
          rw [List.length_cons]
          omega
      obtain ⟨c, hc⟩ : ∃ c : Nat, r.2.toNat = c + 1 := ⟨r.2.toNat - 1, by omega⟩
      rw [told_plA _ _ _ u, hc, it_step c _ _ nn, show (c : Int) + 1 = r.2 by omega]
    have ih := all_units t (plA ws n (List.replicate r.2.toNat r.1)) _ (n + r.2.toNat) (addsB B (brR R (n : Int) (leavR (toldR ws) r.1 r.2))) (uni_plA _ _ _ u) h1 (by rw [cn]; exact h2) (fun x hx => k x (List.mem_cons_of_mem _ hx)) (fun i x y hx hy => alt (i + 1) x y hx hy) (fun l hl hz x r' hx hr' => by
      have ex := h3 l hl (by omega) x hx
      rw [ex]
      refine alt 0 r r' rfl ?_
      cases t with
      | nil => cases hr'
      | cons y s => exact hr')
    rw [cn, told'] at ih
    rw [e, psR_app, List.length_replicate, addU_app, ← a1]
    exact ih
theorem whole_units {rs : List Run} (k : ∀ r ∈ rs, 1 ≤ r.2) (a : Alt rs) : blR rs = addU [] (psR [] 0 (itR rs)) :=
  all_units rs [] [] 0 [] (fun x hx => by cases hx) rfl trivial k a (fun l hl => by cases hl)
/-! ### all counts multiplied -/
def scX (t : Int) (x : Blk) : Blk := (x.1 * t, x.2.1 * t, x.2.2 * t)
def scB (t : Int) (B : List Blk) : List Blk := B.map (scX t)
theorem eq_sc {a b t : Int} (ht : 0 < t) : a * t = b * t ↔ a = b :=
  ⟨fun z => Int.le_antisymm ((le_sc ht).mp (by omega)) ((le_sc ht).mp (by omega)), fun z => by rw [z]⟩
theorem addB_sc {t : Int} (ht : 0 < t) (B : List Blk) (x : Blk) : addB (scB t B) (scX t x) = scB t (addB B x) := by
  rcases shaped_not (B := B) with e | ⟨B0, l, e⟩
  · subst e
    rfl
  · subst e
    have e1 : scB t (B0 ++ [l]) = scB t B0 ++ [scX t l] := List.map_append ..
    rw [e1]
    have i1 : (scX t l).1 + (scX t l).2.2 = (scX t x).1 ↔ l.1 + l.2.2 = x.1 := by
      show l.1 * t + l.2.2 * t = x.1 * t ↔ _
      rw [← Int.add_mul]
      exact eq_sc ht
    have i2 : (scX t l).2.1 + (scX t l).2.2 = (scX t x).2.1 ↔ l.2.1 + l.2.2 = x.2.1 := by
      show l.2.1 * t + l.2.2 * t = x.2.1 * t ↔ _
      rw [← Int.add_mul]
      exact eq_sc ht
    by_cases c : l.1 + l.2.2 = x.1 ∧ l.2.1 + l.2.2 = x.2.1
    · rw [addB_join c, addB_join ⟨i1.mpr c.1, i2.mpr c.2⟩]
      show _ = List.map (scX t) (B0 ++ [_])
      rw [List.map_append]
      show scB t B0 ++ [(l.1 * t, l.2.1 * t, l.2.2 * t + x.2.2 * t)] = scB t B0 ++ [(l.1 * t, l.2.1 * t, (l.2.2 + x.2.2) * t)]
      rw [Int.add_mul]
    · rw [addB_new c, addB_new fun z => c ⟨i1.mp z.1, i2.mp z.2⟩]
      show _ = List.map (scX t) ((B0 ++ [l]) ++ [x])
      rw [List.map_append, List.map_append]
      rfl
theorem adds_sc {t : Int} (ht : 0 < t) : ∀ (xs B : List Blk), addsB (scB t B) (scB t xs) = scB t (addsB B xs)
  | [], _ => rfl
  | x :: u, B => by
    show addsB (addB (scB t B) (scX t x)) (scB t u) = scB t (addsB (addB B x) u)
    rw [addB_sc ht, adds_sc ht u]
theorem brP_sc {t : Int} (ht : 0 < t) (p : Rg) (b n : Int) : brP (p.1 * t, p.2 * t + t - 1) (b * t) (n * t) = scB t (brP p b n) := by
  unfold brP
  rw [rm_sc ht]
  by_cases c : 0 < rmR p n
  · rw [if_pos c, if_pos ((pos_sc ht).mpr c)]
    rfl
  · rw [if_neg c, if_neg fun z => c ((pos_sc ht).mp z)]
    rfl
theorem brR_sc {t : Int} (ht : 0 < t) : ∀ (R : List Rg) (b n : Int), brR (scP t R) (b * t) (n * t) = scB t (brR R b n)
  | [], _, _ => rfl
  | p :: u, b, n => by
    show brP (p.1 * t, p.2 * t + t - 1) (b * t) (n * t) ++ brR (scP t u) (b * t + rmR (p.1 * t, p.2 * t + t - 1) (n * t)) (n * t - rmR (p.1 * t, p.2 * t + t - 1) (n * t)) = List.map (scX t) (brP p b n ++ brR u (b + rmR p n) (n - rmR p n))
    rw [brP_sc ht, rm_sc ht, ← Int.sub_mul, ← Int.add_mul, brR_sc ht u, List.map_append]
    rfl
theorem boR_sc {t : Int} (ht : 0 < t) : ∀ (rs : List Run) (st : Option Run) (b : Int) (R : List Rg) (B : List Blk), boR (scR t rs) (scO t st) (b * t) (scP t R) (scB t B) = scB t (boR rs st b R B)
  | [], _, _, _, _ => rfl
  | r :: u, st, b, R, B => by
    show boR (scR t u) (stepR (scO t st) r.1 (r.2 * t)) (b * t + r.2 * t) (wfR (scP t R) (leavR (scO t st) r.1 (r.2 * t)) ++ adP (scO t st) (b * t) (r.1, r.2 * t)) (addsB (scB t B) (brR (scP t R) (b * t) (leavR (scO t st) r.1 (r.2 * t)))) = scB t (boR u (stepR st r.1 r.2) (b + r.2) (wfR R (leavR st r.1 r.2) ++ adP st b r) (addsB B (brR R b (leavR st r.1 r.2))))
    rw [step_sc ht, ← Int.add_mul, leav_sc ht, wfR_sc ht, adP_sc ht, brR_sc ht, adds_sc ht]
    have e : scP t (wfR R (leavR st r.1 r.2)) ++ scP t (adP st b r) = scP t (wfR R (leavR st r.1 r.2) ++ adP st b r) := by
      unfold scP
      rw [List.map_append]
    rw [e, boR_sc ht u]
theorem blR_sc {t : Int} (ht : 0 < t) (rs : List Run) : blR (scR t rs) = scB t (blR rs) := by
  have := boR_sc ht rs none 0 [] []
  rw [Int.zero_mul] at this
  exact this
/-- the blocks of multiplied pairs -/
def lbR (t : Int) (P : List Pr) : List Blk := P.foldl (fun F p => addB F (p.1 * t, p.2 * t, t)) []
theorem lbR_snoc (t : Int) (P : List Pr) (p : Pr) : lbR t (P ++ [p]) = addB (lbR t P) (p.1 * t, p.2 * t, t) := by
  unfold lbR
  rw [List.foldl_append]
  rfl
theorem lbR_sc {t : Int} (ht : 0 < t) (P : List Pr) : lbR t P = scB t (addU [] P) := by
  have gen : ∀ (P : List Pr) (F : List Blk), P.foldl (fun F p => addB F (p.1 * t, p.2 * t, t)) (scB t F) = scB t (addU F P) := by
    intro P
    induction P with
    | nil => intro F; rfl
    | cons p u ih =>
      intro F
      have e := addB_sc ht F (p.1, p.2, 1)
      have e2 : scX t (p.1, p.2, 1) = (p.1 * t, p.2 * t, t) := by
        show (p.1 * t, p.2 * t, 1 * t) = _
        rw [Int.one_mul]
      rw [e2] at e
      show u.foldl (fun F p => addB F (p.1 * t, p.2 * t, t)) (addB (scB t F) (p.1 * t, p.2 * t, t)) = scB t (addU (addB F (p.1, p.2, 1)) u)
      rw [e, ih]
  exact gen P []
theorem lbR_len (t : Int) (P : List Pr) : (lbR t P).length ≤ P.length := by
  have gen : ∀ (P : List Pr) (F : List Blk), (P.foldl (fun F p => addB F (p.1 * t, p.2 * t, t)) F).length ≤ F.length + P.length := by
    intro P
    induction P with
    | nil => intro F; exact Nat.le_refl _
    | cons p u ih =>
      intro F
      have h1 := ih (addB F (p.1 * t, p.2 * t, t))
      have h2 := addB_len F (p.1 * t, p.2 * t, t)
      show (u.foldl (fun F p => addB F (p.1 * t, p.2 * t, t)) (addB F (p.1 * t, p.2 * t, t))).length ≤ _
      rw [List.length_cons]
      omega
  have := gen P []
  rw [List.length_nil, Nat.zero_add] at this
  exact this
theorem lbR_pos {t : Int} (ht : 0 < t) (P : List Pr) : PosB (lbR t P) := by
  have gen : ∀ (P : List Pr) (F : List Blk), PosB F → PosB (P.foldl (fun F p => addB F (p.1 * t, p.2 * t, t)) F) := by
    intro P
    induction P with
    | nil => intro F h; exact h
    | cons p u ih =>
      intro F h
      exact ih _ (fl_add (x := (p.1 * t, p.2 * t, t)) h ht).2
  exact gen P [] (fun x h => by cases h)
theorem whole_lb {rs : List Run} {t : Int} (ht : 0 < t) (k : ∀ r ∈ rs, 1 ≤ r.2) (a : Alt rs) : blR (scR t rs) = lbR t (psR [] 0 (itR rs)) := by
  rw [blR_sc ht, whole_units k a, lbR_sc ht]
/-! ### pairs of a multiplied sequence -/
def exP (t : Int) (P : List Pr) : List Pr := P.flatMap fun p => zpL (posL (p.1 * t) t.toNat) (p.2 * t)
theorem exP_cons (t : Int) (p : Pr) (P : List Pr) : exP t (p :: P) = zpL (posL (p.1 * t) t.toNat) (p.2 * t) ++ exP t P := rfl
theorem exP_app (t : Int) (P Q : List Pr) : exP t (P ++ Q) = exP t P ++ exP t Q := List.flatMap_append ..
theorem ex_zp {t : Int} (ht : 0 < t) : ∀ (c : Nat) (a b : Int), exP t (zpL (posL a c) b) = zpL (posL (a * t) (c * t.toNat)) (b * t)
  | 0, a, b => by
    rw [Nat.zero_mul]
    rfl
  | c + 1, a, b => by
    show zpL (posL (a * t) t.toNat) (b * t) ++ exP t (zpL (posL (a + 1) c) (b + 1)) = _
    rw [ex_zp ht c, Nat.succ_mul, Nat.add_comm, posL_app, zpL_app, posL_len, Int.add_mul, Int.add_mul, Int.one_mul, show ((t.toNat : Nat) : Int) = t by omega]
theorem fl_sc {t : Int} (ht : 0 < t) : ∀ (B : List Blk), PosB B → flB (scB t B) = exP t (flB B)
  | [], _ => rfl
  | x :: u, h => by
    have hx := h x (List.mem_cons_self ..)
    show flX (scX t x) ++ flB (scB t u) = exP t (flX x ++ flB u)
    rw [exP_app, fl_sc ht u fun y hy => h y (List.mem_cons_of_mem _ hy)]
    congr 1
    unfold flX
    rw [ex_zp ht]
    show zpL (posL (x.1 * t) (x.2.2 * t).toNat) (x.2.1 * t) = _
    rw [Int.toNat_mul (by omega) (by omega)]
theorem ex_len {t : Int} (P : List Pr) : (exP t P).length = P.length * t.toNat := by
  induction P with
  | nil => rw [List.length_nil, Nat.zero_mul]; rfl
  | cons p u ih => rw [exP_cons, List.length_append, ih, zpL_len, posL_len, List.length_cons, Nat.succ_mul, Nat.add_comm]
theorem ex_get {t : Int} : ∀ (P : List Pr) (i r : Nat) (p : Pr), P[i]? = some p → r < t.toNat → (exP t P)[i * t.toNat + r]? = some (p.1 * t + (r : Int), p.2 * t + (r : Int))
  | [], _, _, _, h, _ => by simp at h
  | x :: u, 0, r, p, h, hr => by
    have e : x = p := Option.some.inj h
    subst e
    rw [Nat.zero_mul, Nat.zero_add, exP_cons, List.getElem?_append_left (by rw [zpL_len, posL_len]; exact hr), zp_get _ _ _ _ hr]
  | x :: u, i + 1, r, p, h, hr => by
    have h : u[i]? = some p := h
    rw [exP_cons, List.getElem?_append_right (by rw [zpL_len, posL_len, Nat.succ_mul]; omega), zpL_len, posL_len, Nat.succ_mul, show i * t.toNat + t.toNat + r - t.toNat = i * t.toNat + r by omega]
    exact ex_get u i r p h hr
theorem ex_mem {t : Int} (ht : 0 < t) {P : List Pr} {q : Pr} (h : q ∈ exP t P) : ∃ p ∈ P, ∃ j : Int, 0 ≤ j ∧ j < t ∧ q = (p.1 * t + j, p.2 * t + j) := by
  obtain ⟨p, hp, hq⟩ := List.mem_flatMap.mp h
  have := (mem_zp _ _ _ q).mp hq
  rw [show ((t.toNat : Nat) : Int) = t by omega] at this
  exact ⟨p, hp, q.1 - p.1 * t, by omega, by omega, Prod.ext (by show q.1 = p.1 * t + (q.1 - p.1 * t); omega) (by show q.2 = p.2 * t + (q.1 - p.1 * t); omega)⟩
theorem same_item {a b j r t : Int} (ht : 0 < t) (j0 : 0 ≤ j) (j1 : j < t) (r0 : 0 ≤ r) (r1 : r < t) (e : a * t + j = b * t + r) : a = b := by
  rcases Int.lt_trichotomy a b with c | c | c
  · have := (le_sc (a := a + 1) (b := b) ht).mpr (by omega)
    rw [Int.add_mul, Int.one_mul] at this
    omega
  · exact c
  · have := (le_sc (a := b + 1) (b := a) ht).mpr (by omega)
    rw [Int.add_mul, Int.one_mul] at this
    omega
theorem ps_sorted : ∀ (ks : List Str) (ws : List Run) (n : Nat), (psR ws n ks).Pairwise fun p q => p.2 < q.2
  | [], _, _ => List.Pairwise.nil
  | k :: t, ws, n => by
    show (plP ws k n ++ psR (plS ws k n) (n + 1) t).Pairwise _
    have ih := ps_sorted t (plS ws k n) (n + 1)
    have bd := ps_snd t (plS ws k n) (n + 1)
    cases ws with
    | nil => exact ih
    | cons r u =>
      by_cases c : r.1 = k
      · rw [show plP (r :: u) k n = [] from if_pos c]
        exact ih
      · rw [show plP (r :: u) k n = [(r.2, (n : Int))] from if_neg c]
        refine List.Pairwise.cons (fun q hq => ?_) ih
        have := bd q hq
        show (n : Int) < q.2
        omega
theorem sorted_at : ∀ {P : List Pr} {k : Nat} {p : Pr}, P.Pairwise (fun p q => p.2 < q.2) → P[k]? = some p → (P.filter fun q => decide (q.2 < p.2)).length = k
  | x :: t, 0, p, h, e => by
    have e : x = p := Option.some.inj e
    subst e
    have h := List.pairwise_cons.mp h
    rw [List.length_eq_zero_iff, List.filter_eq_nil_iff]
    intro q hq z
    have z := of_decide_eq_true z
    rcases List.mem_cons.mp hq with w | w
    · rw [w] at z
      omega
    · have := h.1 q w
      omega
  | x :: t, k + 1, p, h, e => by
    have e : t[k]? = some p := e
    have h := List.pairwise_cons.mp h
    have lt := h.1 p (List.mem_of_getElem? e)
    rw [List.filter_cons, if_pos (decide_eq_true lt), List.length_cons, sorted_at h.2 e]
theorem scR_pos {t : Int} {rs : List Run} (t1 : 1 ≤ t) (k : ∀ r ∈ rs, 1 ≤ r.2) : ∀ r ∈ scR t rs, 1 ≤ r.2 := by
  intro r hr
  obtain ⟨x, hx, rfl⟩ := List.mem_map.mp hr
  have c1 := k x hx
  show 1 ≤ x.2 * t
  have := Int.mul_le_mul c1 t1 (by decide) (by omega)
  omega
theorem scR_alt {t : Int} {rs : List Run} (a : Alt rs) : Alt (scR t rs) := by
  intro i x y hx hy
  unfold scR at hx hy
  rw [List.getElem?_map] at hx hy
  cases e1 : rs[i]? with
  | none => rw [e1] at hx; cases hx
  | some a' =>
    cases e2 : rs[i + 1]? with
    | none => rw [e2] at hy; cases hy
    | some b' =>
      rw [e1] at hx
      rw [e2] at hy
      cases hx
      cases hy
      exact a i a' b' e1 e2
/-- all that is told of a multiplied sequence's pairs -/
structure Mul (t : Int) (rs : List Run) : Prop where
  lb : blR (scR t rs) = lbR t (psR [] 0 (itR rs))
  fl : flB (blR (scR t rs)) = exP t (psR [] 0 (itR rs))
  ps : psR [] 0 (itR (scR t rs)) = exP t (psR [] 0 (itR rs))
  pb : PosB (blR (scR t rs))
theorem mul_of {t : Int} {rs : List Run} (t1 : 1 ≤ t) (k : ∀ r ∈ rs, 1 ≤ r.2) (a : Alt rs) : Mul t rs := by
  have ht : 0 < t := by omega
  obtain ⟨w1, w2⟩ := whole_pairs k a
  obtain ⟨v1, v2⟩ := whole_pairs (scR_pos t1 k) (scR_alt (t := t) a)
  have f : flB (blR (scR t rs)) = exP t (psR [] 0 (itR rs)) := by rw [blR_sc ht, fl_sc ht _ w2, w1]
  exact ⟨whole_lb ht k a, f, by rw [← v1, f], v2⟩
theorem pc_count {rs : List Run} {k : Nat} {p : Pr} (pos : ∀ r ∈ rs, 1 ≤ r.2) (h : (psR [] 0 (itR rs))[k]? = some p) : 0 ≤ p.2 ∧ p.2 < lenR rs ∧ pcR rs p.2 = (k : Int) := by
  have b := ps_snd _ _ _ p (List.mem_of_getElem? h)
  have l := len_it rs pos
  have pm : ((p.2.toNat : Nat) : Int) = p.2 := by omega
  have e1 := pc_at (m := p.2.toNat) pos (by omega)
  rw [pm] at e1
  refine ⟨by omega, by omega, ?_⟩
  rw [e1, ← ps_filter _ _ (by omega), pm, sorted_at (ps_sorted _ _ _) h]
theorem pair_in {rs : List Run} {p : Pr} (pos : ∀ r ∈ rs, 1 ≤ r.2) (h : p ∈ psR [] 0 (itR rs)) : 0 ≤ p.1 ∧ p.1 < lenR rs ∧ 0 ≤ p.2 ∧ p.2 < lenR rs := by
  have l := len_it rs pos
  have pm := ps_perm (itR rs) [] 0
  have b1 := posL_ge _ _ p.1 (pm.mem_iff.mp (List.mem_append.mpr (.inl (List.mem_map.mpr ⟨p, h, rfl⟩))))
  have b2 := posL_ge _ _ p.2 (pm.mem_iff.mp (List.mem_append.mpr (.inr (List.mem_append.mpr (.inl (List.mem_map.mpr ⟨p, h, rfl⟩))))))
  omega
theorem wait_in {rs : List Run} {r : Run} (pos : ∀ r ∈ rs, 1 ≤ r.2) (h : r ∈ plA [] 0 (itR rs)) : 0 ≤ r.2 ∧ r.2 < lenR rs ∧ ∀ p ∈ psR [] 0 (itR rs), p.1 ≠ r.2 ∧ p.2 ≠ r.2 := by
  have l := len_it rs pos
  have pm := ps_perm (itR rs) [] 0
  have hr : r.2 ∈ psW (plA [] 0 (itR rs)) := List.mem_map.mpr ⟨r, h, rfl⟩
  have b1 := posL_ge _ _ r.2 (pm.mem_iff.mp (List.mem_append.mpr (.inr (List.mem_append.mpr (.inr hr)))))
  refine ⟨by omega, by omega, fun p hp => ?_⟩
  obtain ⟨_, h2, h3⟩ := List.nodup_append.mp (ps_nodup (itR rs))
  obtain ⟨_, _, h6⟩ := List.nodup_append.mp h2
  exact ⟨h3 _ (List.mem_map.mpr ⟨p, hp, rfl⟩) _ (List.mem_append.mpr (.inr hr)), h6 _ (List.mem_map.mpr ⟨p, hp, rfl⟩) _ hr⟩
end UP

set_option Elab.async false
set_option linter.all false
set_option maxRecDepth 100000
set_option maxHeartbeats 4000000
set_option pp.maxSteps 300
namespace UP
open PySem PySem.Spec PyProof.Rows L2
/-! ### the bag: a list of the cells, the next one, the rest of a large one, the number of draws, a mixed number -/
structure BagS where
  ns : List Int
  i : Int
  r : Int
  d : Int
  t : Int
def Bag (H : Hp) (p cl : Addr) (n : Nat) : Prop := ∃ b : BagS, H p = some (.lst [.ref cl, .int b.i, .int b.r, .int b.d, .int b.t]) ∧ H cl = some (.lst (b.ns.map V.int)) ∧ b.ns.length ≤ 63 ∧ 0 ≤ b.i ∧ b.i ≤ b.ns.length ∧ 0 ≤ b.r ∧ 0 ≤ b.d ∧ b.d ≤ n ∧ 0 ≤ b.t ∧ b.t < 2305843009213693951
theorem Bag.same {H H' : Hp} {p cl : Addr} {n : Nat} (z : Bag H p cl n) (s : Same H H') : Bag H' p cl n := by
  obtain ⟨b, h1, h2, r⟩ := z
  exact ⟨b, s _ _ h1, s _ _ h2, r⟩
theorem Bag.mono {H : Hp} {p cl : Addr} {n m : Nat} (z : Bag H p cl n) (l : n ≤ m) : Bag H p cl m := by
  obtain ⟨b, h1, h2, h3, h4, h5, h6, h7, h8, h9⟩ := z
  exact ⟨b, h1, h2, h3, h4, h5, h6, h7, by omega, h9⟩
theorem Bag.ne {H : Hp} {p cl q : Addr} {n : Nat} (z : Bag H p cl n) (h : H q = none) : q ≠ p := by
  obtain ⟨b, h1, _⟩ := z
  exact (ne_of_none h1 h).symm
theorem bag_ints {cl : Addr} {a b c d : Int} {ns : List Int} : HO.lst (ns.map V.int) ≠ .lst [.ref cl, .int a, .int b, .int c, .int d] := by
  intro q
  cases ns with
  | nil => cases q
  | cons x t => cases q
theorem Bag.cl_ne {H : Hp} {p cl : Addr} {n : Nat} (z : Bag H p cl n) : cl ≠ p := by
  obtain ⟨b, h1, h2, _⟩ := z
  exact ne_of h2 h1 bag_ints
/-- what is kept apart from the bag's list keeps the bag -/
theorem Bag.keep {H H' : Hp} {p cl : Addr} {n : Nat} (z : Bag H p cl n) (k : ∀ o, H p = some o → H' p = some o) (c : ∀ o, H cl = some o → H' cl = some o) : Bag H' p cl n := by
  obtain ⟨b, h1, h2, r⟩ := z
  exact ⟨b, k _ h1, c _ h2, r⟩
theorem at50 {α : Type} {x y z u w : α} : atI [x, y, z, u, w] 0 = some x := rfl
theorem at51 {α : Type} {x y z u w : α} : atI [x, y, z, u, w] 1 = some y := rfl
theorem at52 {α : Type} {x y z u w : α} : atI [x, y, z, u, w] 2 = some z := rfl
theorem at53 {α : Type} {x y z u w : α} : atI [x, y, z, u, w] 3 = some u := rfl
theorem at54 {α : Type} {x y z u w : α} : atI [x, y, z, u, w] 4 = some w := rfl
theorem atI_ofB {α : Type} {l : List α} {i : Int} {x : α} (h0 : 0 ≤ i) (h : l[i.toNat]? = some x) : atI l i = some x := by
  have : i < l.length := by
    obtain ⟨q, _⟩ := List.getElem?_eq_some_iff.mp h
    omega
  unfold atI ixN
  rw [if_pos h0, if_pos (by omega)]
  exact h
theorem p18 : (10 : Int) ^ ((18 : Int).toNat) = 1000000000000000000 := by decide +kernel
theorem wideB {m : Int} (h0 : 0 ≤ m) (h1 : m ≤ 1000000000000000000000000000000000000000000000000000000000000) : m.natAbs < 2 ^ 8000 :=
  Nat.lt_of_le_of_lt (m := 1000000000000000000000000000000000000000000000000000000000000) (by omega) (by decide +kernel)
section
variable {P : Program} {w : World} {K : PySem.W.Frag} {mg : Str → Option Value} {base : Heap}
/-! _law_bag: slots 0:script 1:total 2:cell -/
abbrev s_law_bag : Stmt := topS 57
theorem sc_law_bag : FnScope ["script", "total", "cell"] ["script"] (defScope s_law_bag) := ⟨rfl, rfl, rfl, by decide +kernel, rfl, by decide +kernel, by decide +kernel⟩
def sp_law_bag (K : PySem.W.Frag) : Sp := fun vs H Q _ => ∃ (a : Addr) (ns : List Int), vs = [.ref a] ∧ SqL K H a (ns.map V.int) ∧ ns.length ≤ 63 ∧ ∀ H' p cl, Same H H' → H p = none → H cl = none → Bag H' p cl 0 → Q (.ref p) H'
theorem ok_law_bag (D : Df K mg "_law_bag" s_law_bag) (T : Tx mg) : Has P w K mg base 1 "_law_bag" ["script"] (sp_law_bag K) := by
  refine has_of D sc_law_bag (fun _ _ _ _ _ _ us hl => match us, hl with | [_], _ => rfl) (fun vs H Q E h => ?_) (fun f cdv A outer s₀ H vs Q E hr h => ?_)
  · obtain ⟨_, _, rfl, _⟩ := h
    rfl
  · obtain ⟨a, ns, rfl, hS, l63, q⟩ := h
    refine ⟨_, (pss_cons (ps_set (i := 1) sc_law_bag.nd rfl (by first | exact Or.inl rfl | exact Or.inr rfl) pe_int)
    (pss_cons (ps_for PassesOwn.never rfl (pi_list (pv 0)) (pg_name (i := 2) sc_law_bag.nd rfl (by first | exact Or.inl rfl | exact Or.inr rfl))
      (pss_one (ps_set (i := 1) sc_law_bag.nd rfl (by first | exact Or.inl rfl | exact Or.inr rfl) (pe_op op_mod (pe_op op_add (pe_op op_add (pe_op op_mul (pv 1) pe_int) (pe_op op_mod (pv 2) pe_int)) pe_int) pe_int))))
    (pss_one (ps_ret (pe_lst (pa_cons (pe_callTy call_list_of (by rfl) T.n_list (by decide +kernel) (pa_cons (pv 0) pa_nil)) (pa_cons pe_int (pa_cons pe_int (pa_cons pe_int (pa_cons (pv 1) pa_nil)))))))))), ?_⟩
    refine ⟨_, rfl, a, rfl, ⟨_, hS⟩, for_list (K := K) (a := a) (xs := ns.map V.int) (fun i σ H' => ∃ (t : Int) (y : Option V), σ = [some (.ref a), some (.int t), y] ∧ H' = H ∧ 0 ≤ t ∧ t < 2305843009213693951)
      ⟨1, none, rfl, rfl, by decide, by decide⟩ (fun i σ H' _ hP => ?_) (fun i x σ H1 ex hP => ?_) (fun σ H1 hP => ?_)⟩
    · obtain ⟨_, _, _, rfl, _⟩ := hP
      exact hS
    · obtain ⟨t, y, rfl, rfl, t0, t1⟩ := hP
      rw [List.getElem?_map] at ex
      cases e : ns[i]? with
      | none =>
        rw [e] at ex
        cases ex
      | some c =>
        rw [e] at ex
        cases ex
        refine ⟨_, rfl, _, _, rfl, rfl, .inr ⟨by decide, by decide⟩, _, rfl, _, _, rfl, rfl, (by show (0 : Int) < _; decide), _, _, rfl, rfl, _, _, rfl, rfl, _, _, rfl, rfl, (by show (0 : Int) < _; decide), ?_⟩
        exact ⟨_, _, rfl, rfl, Int.emod_nonneg _ (by decide), Int.emod_lt_of_pos _ (by decide)⟩
    · obtain ⟨t, y, rfl, rfl, t0, t1⟩ := hP
      refine ⟨_, rfl, a, _, rfl, .inl hS, fun cl ncl => ⟨_, rfl, (by show 5 ≤ sizeLine; decide), fun p np => ?_⟩⟩
      have s1 := same_upd (o := .lst (ns.map V.int)) ncl
      have s2 := same_upd (o := .lst [.ref cl, .int 0, .int 0, .int 0, .int t]) np
      exact q _ p cl (s1.trans s2) (s1.free np) ncl ⟨⟨ns, 0, 0, 0, t⟩, upd_same, s2 _ _ upd_same, l63, Int.le_refl _, by show (0 : Int) ≤ _; omega, Int.le_refl _, Int.le_refl _, by show (0 : Int) ≤ ((0 : Nat) : Int); decide, t0, t1⟩
/-! _law_stir: slots 0:number 1:place 2:one 3:two -/
abbrev s_law_stir : Stmt := topS 58
theorem sc_law_stir : FnScope ["number", "place", "one", "two"] ["number", "place"] (defScope s_law_stir) := ⟨rfl, rfl, rfl, by decide +kernel, rfl, by decide +kernel, by decide +kernel⟩
def sp_law_stir : Sp := fun vs H Q _ => ∃ (a d : Int), vs = [.int a, .int d] ∧ 0 ≤ a ∧ a < 2305843009213693951 ∧ 0 ≤ d ∧ d ≤ 1000000000000000 ∧ ∀ r, Q (.int r) H
theorem ok_law_stir (D : Df K mg "_law_stir" s_law_stir) (T : Tx mg) : Has P w K mg base 1 "_law_stir" ["number", "place"] sp_law_stir := by
  refine has_of D sc_law_stir (fun _ _ _ _ _ _ us hl => match us, hl with | [_, _], _ => rfl) (fun vs H Q E h => ?_) (fun f cdv A outer s₀ H vs Q E hr h => ?_)
  · obtain ⟨_, _, rfl, _⟩ := h
    rfl
  · obtain ⟨a, d, rfl, a0, a1, d0, d1, q⟩ := h
    refine ⟨_, (pss_cons (ps_set (i := 2) sc_law_stir.nd rfl (by first | exact Or.inl rfl | exact Or.inr rfl) (pe_op op_mod (pe_op op_add (pe_op op_add (pe_op op_mul (pv 0) pe_int) (pe_op op_mul (pv 1) pe_int)) pe_int) pe_int))
    (pss_cons (ps_set (i := 3) sc_law_stir.nd rfl (by first | exact Or.inl rfl | exact Or.inr rfl) (pe_op op_mod (pe_op op_mul (pv 2) (pv 2)) pe_int))
    (pss_one (ps_ret (pe_op op_fdiv (pe_op op_mod (pe_op op_add (pe_op op_add (pe_op op_mul (pv 3) pe_int) (pe_op op_mul (pe_op op_mul (pv 1) (pv 1)) pe_int)) (pe_op op_fdiv (pv 2) pe_int)) pe_int) pe_int))))), ?_⟩
    refine ⟨_, rfl, _, _, rfl, rfl, .inr ⟨by decide, by decide⟩, _, rfl, _, _, rfl, rfl, .inr ⟨by decide, by decide⟩, _, _, rfl, rfl, _, _, rfl, rfl, _, _, rfl, rfl, (by show (0 : Int) < _; decide), ?_⟩
    have e0 := Int.emod_nonneg (a * 998244353 + d * 1000000007 + 5) (b := 2305843009213693951) (by decide)
    have e1 := Int.emod_lt_of_pos (a * 998244353 + d * 1000000007 + 5) (b := 2305843009213693951) (by decide)
    generalize (a * 998244353 + d * 1000000007 + 5) % 2305843009213693951 = one at *
    refine ⟨_, rfl, _, rfl, _, _, rfl, rfl, .inl ⟨by omega, by omega⟩, _, _, rfl, rfl, (by show (0 : Int) < _; decide), ?_⟩
    refine ⟨_, rfl, _, _, rfl, rfl, .inr ⟨by decide, by decide⟩, _, rfl, _, rfl, _, _, rfl, rfl, .inl ⟨by omega, by omega⟩, _, _, rfl, rfl, .inr ⟨by decide, by decide⟩, _, _, rfl, rfl, _, rfl, _, _, rfl, rfl, ⟨by decide, by decide⟩, _, _, rfl, rfl, _, _, rfl, rfl, (by show (0 : Int) < _; decide), _, _, rfl, rfl, ⟨by decide, by decide⟩, q _⟩
/-! _law_draw: slots 0:bag 1:bound 2:found 3:cell -/
abbrev s_law_draw : Stmt := topS 59
theorem sc_law_draw : FnScope ["bag", "bound", "found", "cell"] ["bag", "bound"] (defScope s_law_draw) := ⟨rfl, rfl, rfl, by decide +kernel, rfl, by decide +kernel, by decide +kernel⟩
def sp_law_draw : Sp := fun vs H Q _ => ∃ (p cl : Addr) (n : Nat) (m : Int), vs = [.ref p, .int m] ∧ Bag H p cl n ∧ n + 1 ≤ 1000000000000000 ∧ 1 ≤ m ∧ m.natAbs < 2 ^ 8000 ∧ ∀ H' r, But p H H' → Bag H' p cl (n + 1) → 0 ≤ r → r < m → Q (.int r) H'
theorem ok_law_draw (D : Df K mg "_law_draw" s_law_draw) (T : Tx mg) (G_law_stir : Has P w K mg base 1 "_law_stir" ["number", "place"] sp_law_stir) : Has P w K mg base 2 "_law_draw" ["bag", "bound"] sp_law_draw := by
  refine has_of D sc_law_draw (fun _ _ _ _ _ _ us hl => match us, hl with | [_, _], _ => rfl) (fun vs H Q E h => ?_) (fun f cdv A outer s₀ H vs Q E hr h => ?_)
  · obtain ⟨_, _, _, _, rfl, _⟩ := h
    rfl
  · obtain ⟨p, cl, n, m, rfl, z, nb, m1, m2, q⟩ := h
    have z0 := z
    have cp := z.cl_ne
    obtain ⟨⟨ns, i, r, d, t⟩, hp, hc, l63, i0, i1, r0, d0, d1, t0, t1⟩ := z
    have hp : H p = some (.lst [.ref cl, .int i, .int r, .int d, .int t]) := hp
    have hc : H cl = some (.lst (ns.map V.int)) := hc
    have l63 : ns.length ≤ 63 := l63
    have i0 : 0 ≤ i := i0
    have i1 : i ≤ ns.length := i1
    have r0 : 0 ≤ r := r0
    have d0 : 0 ≤ d := d0
    have d1 : d ≤ n := d1
    have t0 : 0 ≤ t := t0
    have t1 : t < 2305843009213693951 := t1
    have e0 : ∀ x : Int, 0 ≤ x % m := fun x => Int.emod_nonneg _ (by omega)
    have e1 : ∀ x : Int, x % m < m := fun x => Int.emod_lt_of_pos _ (by omega)
    refine ⟨_, (pss_cons (ps_if (pt_cmpR op_eq (pv 1) pe_int (nomark _)) (pss_one (ps_ret pe_int)) pss_nil)
    (pss_cons (ps_asg (pe_op op_add (pe_ix ix_list (pv 0) pe_int (fun _ _ => rfl)) pe_int) (pg_sub (pv 0) pe_int set_list))
    (pss_cons (ps_if (PW.pt (pw_and (pt_cmpR op_lt (pe_ix ix_list (pv 0) pe_int (fun _ _ => rfl)) pe_int (nomark _)) (pw_and1 (pt_cmpR op_eq (pe_ix ix_list (pv 0) pe_int (fun _ _ => rfl)) (pe_callB call_len_seq (by rfl) T.n_len (by decide +kernel) (pa_cons (pe_ix ix_list (pv 0) pe_int (fun _ _ => rfl)) pa_nil)) (nomark _))))) (pss_one (ps_ret (pe_op op_mod (pe_callH G_law_stir (hr.mono (by omega)) (by rfl) (pa_cons (pe_ix ix_list (pv 0) pe_int (fun _ _ => rfl)) (pa_cons (pe_ix ix_list (pv 0) pe_int (fun _ _ => rfl)) pa_nil))) (pv 1)))) pss_nil)
    (C8.pss_cut (ps_if (pt_cmpR op_lt (pe_ix ix_list (pv 0) pe_int (fun _ _ => rfl)) pe_int (nomark _)) (pss_cons (ps_set (i := 3) sc_law_draw.nd rfl (by first | exact Or.inl rfl | exact Or.inr rfl) (pe_ix ix_list (pe_ix ix_list (pv 0) pe_int (fun _ _ => rfl)) (pe_ix ix_list (pv 0) pe_int (fun _ _ => rfl)) (fun _ _ => rfl)))
    (pss_cons (ps_asg (pe_op op_add (pe_ix ix_list (pv 0) pe_int (fun _ _ => rfl)) pe_int) (pg_sub (pv 0) pe_int set_list))
    (pss_cons (ps_if (pt_cmpR op_lt (pv 3) (pe_op op_pow pe_int pe_int) (nomark _)) (pss_one (ps_ret (pe_op op_mod (pe_callH G_law_stir (hr.mono (by omega)) (by rfl) (pa_cons (pe_op op_mod (pv 3) pe_int) (pa_cons (pe_ix ix_list (pv 0) pe_int (fun _ _ => rfl)) pa_nil))) (pv 1)))) pss_nil)
    (pss_one (ps_asg (pe_op op_sub (pv 3) (pe_op op_pow pe_int pe_int)) (pg_sub (pv 0) pe_int set_list)))))) pss_nil)
    (pss_cons (ps_set (i := 2) sc_law_draw.nd rfl (by first | exact Or.inl rfl | exact Or.inr rfl) (pe_op op_mod (pe_ix ix_list (pv 0) pe_int (fun _ _ => rfl)) (pv 1)))
    (pss_cons (ps_asg (pe_op op_fdivW (pe_ix ix_list (pv 0) pe_int (fun _ _ => rfl)) (pv 1)) (pg_sub (pv 0) pe_int set_list))
    (pss_one (ps_ret (pv 2))))))))), ?_⟩
    refine ⟨_, rfl, rfl, _, rfl, ite2 (fun _ => ?_) (fun _ => ?_)⟩
    · exact q _ _ But.refl (z0.mono (Nat.le_succ _)) (Int.le_refl _) (by omega)
    refine ⟨_, rfl, p, _, 3, _, rfl, rfl, .of hp, at53, _, _, rfl, rfl, _, rfl, p, _, 3, 3, rfl, rfl, hp, rfl, ?_⟩
    have B1 : But p H (upd H p (.lst [.ref cl, .int i, .int r, .int (d + 1), .int t])) := but_upd
    have hp1 : (upd H p (.lst [.ref cl, .int i, .int r, .int (d + 1), .int t])) p = some (.lst [.ref cl, .int i, .int r, .int (d + 1), .int t]) := upd_same
    have hc1 := B1 _ _ cp hc
    show tSeq _ _ _ _ (upd H p (.lst [.ref cl, .int i, .int r, .int (d + 1), .int t]))
    generalize upd H p (.lst [.ref cl, .int i, .int r, .int (d + 1), .int t]) = H1 at *
    have lm : (ns.map V.int).length = ns.length := List.length_map ..
    have mk : ∀ (H' : Hp) (i' r' : Int), But p H1 H' → H' p = some (.lst [.ref cl, .int i', .int r', .int (d + 1), .int t]) → 0 ≤ i' → i' ≤ ns.length → 0 ≤ r' → But p H H' ∧ Bag H' p cl (n + 1) := fun H' i' r' b hb j0 j1 k0 =>
      ⟨B1.trans b, ⟨ns, i', r', d + 1, t⟩, hb, b _ _ cp hc1, l63, j0, j1, k0, by show 0 ≤ d + 1; omega, by show d + 1 ≤ ((n + 1 : Nat) : Int); omega, t0, t1⟩
    have out : ∀ (H' : Hp) (i' r' x : Int), But p H1 H' → H' p = some (.lst [.ref cl, .int i', .int r', .int (d + 1), .int t]) → 0 ≤ i' → i' ≤ ns.length → 0 ≤ r' → Q (.int (x % m)) H' := fun H' i' r' x b hb j0 j1 k0 => by
      obtain ⟨k1, k2⟩ := mk H' i' r' b hb j0 j1 k0
      exact q _ _ k1 k2 (e0 x) (e1 x)
    refine ⟨_, rfl, p, _, 2, _, rfl, rfl, .of hp1, at52, _, _, rfl, rfl, _, rfl, ?_⟩
    have rest : ∀ (H2 : Hp) (i' r' : Int), But p H1 H2 → H2 p = some (.lst [.ref cl, .int i', .int r', .int (d + 1), .int t]) → 0 ≤ i' → i' ≤ ns.length → 0 ≤ r' →
        ∀ H3, H3 = upd H2 p (.lst [.ref cl, .int i', .int (r' / m), .int (d + 1), .int t]) → Q (.int (r' % m)) H3 := fun H2 i' r' b hb j0 j1 k0 H3 e3 => by
      subst e3
      exact out _ i' (r' / m) r' (b.trans but_upd) upd_same j0 j1 (Int.ediv_nonneg k0 (by omega))
    by_cases c2 : r < 2
    · refine iteP (decide_eq_true c2) ⟨_, rfl, p, _, 1, _, rfl, rfl, .of hp1, at51, _, rfl, p, _, 0, _, rfl, rfl, .of hp1, at50, cl, _, rfl, .inl (.of hc1), rfl, _, rfl, ?_⟩
      rw [lm]
      by_cases ci : i = ns.length
      · refine iteP (decide_eq_true (by rw [ci])) ⟨_, rfl, p, _, 4, _, rfl, rfl, .of hp1, at54, _, rfl, p, _, 3, _, rfl, rfl, .of hp1, at53, t, d + 1, rfl, t0, t1, by omega, by omega, fun x => ⟨_, rfl, _, _, rfl, rfl, (by omega), ?_⟩⟩
        exact out _ i r x But.refl hp1 i0 i1 r0
      · have ci2 : i < ns.length := by omega
        refine iteN (decide_eq_false (fun z => ci (V.int.inj z))) ?_
        obtain ⟨c, ec⟩ : ∃ c, ns[i.toNat]? = some c := ⟨_, List.getElem?_eq_getElem (by omega)⟩
        have eci : atI (ns.map V.int) i = some (.int c) := atI_ofB i0 (by rw [List.getElem?_map, ec]; rfl)
        refine ⟨fun σ' H' => ∃ i' r' y3, σ' = [some (.ref p), some (.int m), none, y3] ∧ But p H1 H' ∧ H' p = some (.lst [.ref cl, .int i', .int r', .int (d + 1), .int t]) ∧ 0 ≤ i' ∧ i' ≤ ns.length ∧ 0 ≤ r', ?_, fun σ' H2 hM => ?_⟩
        · refine ⟨_, rfl, p, _, 2, _, rfl, rfl, .of hp1, at52, _, _, rfl, rfl, _, rfl, iteP (decide_eq_true c2) ?_⟩
          refine ⟨_, rfl, p, _, 0, _, rfl, rfl, .of hp1, at50, _, rfl, p, _, 1, _, rfl, rfl, .of hp1, at51, cl, _, i, _, rfl, rfl, .of hc1, eci, ?_⟩
          refine ⟨_, rfl, p, _, 1, _, rfl, rfl, .of hp1, at51, _, _, rfl, rfl, _, rfl, p, _, 1, 1, rfl, rfl, hp1, rfl, ?_⟩
          have B2 : But p H1 (upd H1 p (.lst [.ref cl, .int (i + 1), .int r, .int (d + 1), .int t])) := but_upd
          have hp2 : (upd H1 p (.lst [.ref cl, .int (i + 1), .int r, .int (d + 1), .int t])) p = some (.lst [.ref cl, .int (i + 1), .int r, .int (d + 1), .int t]) := upd_same
          show tSeq _ _ _ _ (upd H1 p (.lst [.ref cl, .int (i + 1), .int r, .int (d + 1), .int t]))
          generalize upd H1 p (.lst [.ref cl, .int (i + 1), .int r, .int (d + 1), .int t]) = H2 at *
          refine ⟨_, rfl, _, _, rfl, rfl, ⟨by decide, by decide, by decide⟩, _, _, rfl, rfl, _, rfl, ite2 (fun c3 => ?_) (fun c3 => ?_)⟩
          · refine ⟨_, rfl, _, _, rfl, rfl, (by show (0 : Int) < _; decide), _, rfl, p, _, 3, _, rfl, rfl, .of hp2, at53, _, d + 1, rfl, Int.emod_nonneg _ (by decide), Int.emod_lt_of_pos _ (by decide), by omega, by omega, fun x => ⟨_, rfl, _, _, rfl, rfl, (by omega), ?_⟩⟩
            exact out _ (i + 1) r x B2 hp2 (by omega) (by omega) r0
          · have c3 : ¬ c < (10 : Int) ^ ((18 : Int).toNat) := fun z => c3 (decide_eq_true z)
            refine ⟨_, rfl, _, _, rfl, rfl, ⟨by decide, by decide, by decide⟩, _, _, rfl, rfl, _, rfl, p, _, 2, 2, rfl, rfl, hp2, rfl, ?_⟩
            exact ⟨i + 1, _, _, rfl, B2.trans but_upd, upd_same, by omega, by omega, by omega⟩
        · obtain ⟨i', r', y3, rfl, b2, hp2, j0, j1, k0⟩ := hM
          refine ⟨_, rfl, p, _, 2, _, rfl, rfl, .of hp2, at52, _, rfl, _, _, rfl, rfl, (by omega), ?_⟩
          refine ⟨_, rfl, p, _, 2, _, rfl, rfl, .of hp2, at52, _, rfl, _, _, rfl, rfl, wide_div (by omega) m2 (by decide) (by decide), _, rfl, p, _, 2, 2, rfl, rfl, hp2, rfl, ?_⟩
          exact ⟨_, rfl, rest H2 i' r' b2 hp2 j0 j1 k0 _ rfl⟩
    · refine iteN (decide_eq_false c2) ?_
      refine ⟨fun σ' H' => σ' = [some (.ref p), some (.int m), none, none] ∧ H' = H1, ?_, fun σ' H2 hM => ?_⟩
      · exact ⟨_, rfl, p, _, 2, _, rfl, rfl, .of hp1, at52, _, _, rfl, rfl, _, rfl, iteN (decide_eq_false c2) ⟨rfl, rfl⟩⟩
      · obtain ⟨rfl, rfl⟩ := hM
        refine ⟨_, rfl, p, _, 2, _, rfl, rfl, .of hp1, at52, _, rfl, _, _, rfl, rfl, (by omega), ?_⟩
        refine ⟨_, rfl, p, _, 2, _, rfl, rfl, .of hp1, at52, _, rfl, _, _, rfl, rfl, wide_div (by omega) m2 (by decide) (by decide), _, rfl, p, _, 2, 2, rfl, rfl, hp1, rfl, ?_⟩
        exact ⟨_, rfl, rest _ i r But.refl hp1 i0 i1 r0 _ rfl⟩
end
end UP

set_option Elab.async false
set_option linter.all false
set_option maxRecDepth 100000
set_option maxHeartbeats 4000000
set_option pp.maxSteps 300
namespace UP
open PySem PySem.Spec PyProof.Rows L2
/-! ### ranges, also such that grow -/
def adR (R : List Rg) (f l : Int) : List Rg := match R.getLast? with
  | none => R ++ [(f, l)]
  | some z => if z.2 + 1 = f then R.dropLast ++ [(z.1, l)] else R ++ [(f, l)]
def rarR (R : List Rg) (b c n : Int) : List Rg := if n < c then adR (wfR R n) (b + n) (b + c - 1) else wfR R n
theorem adR_len (R : List Rg) (f l : Int) : (adR R f l).length ≤ R.length + 1 := by
  unfold adR
  split
  · rw [List.length_append]
    exact Nat.le_refl _
  · split
    · rw [List.length_append, List.length_dropLast]
      show R.length - 1 + 1 ≤ _
      omega
    · rw [List.length_append]
      exact Nat.le_refl _
theorem rarR_len (R : List Rg) (b c n : Int) : (rarR R b c n).length ≤ R.length + 1 := by
  have := wfR_len R n
  unfold rarR
  split
  · have := adR_len (wfR R n) (b + n) (b + c - 1)
    omega
  · omega
/-- the first n positions of a range, of ranges -/
def ofP (p : Rg) (n : Int) : List Rg := if 0 < rmR p n then [(p.1, p.1 + rmR p n - 1)] else []
def ofR : List Rg → Int → List Rg
  | [], _ => []
  | p :: t, n => ofP p n ++ ofR t (n - rmR p n)
theorem ofR_snoc : ∀ (l : List Rg) (p : Rg) (n : Int), ofR (l ++ [p]) n = ofR l n ++ ofP p (wfN l n)
  | [], p, n => by
    show ofP p n ++ [] = [] ++ ofP p n
    rw [List.append_nil, List.nil_append]
  | x :: t, p, n => by
    show ofP x n ++ ofR (t ++ [p]) (n - rmR x n) = (ofP x n ++ ofR t (n - rmR x n)) ++ ofP p (wfN t (n - rmR x n))
    rw [ofR_snoc t, List.append_assoc]
theorem ofP_len (p : Rg) (n : Int) : (ofP p n).length ≤ 1 := by
  unfold ofP
  split <;> simp
theorem ofR_len : ∀ (R : List Rg) (n : Int), (ofR R n).length ≤ R.length
  | [], _ => Nat.le_refl _
  | p :: t, n => by
    show (ofP p n ++ ofR t (n - rmR p n)).length ≤ t.length + 1
    rw [List.length_append]
    have h1 := ofP_len p n
    have h2 := ofR_len t (n - rmR p n)
    omega
section
variable {P : Program} {w : World} {K : PySem.W.Frag} {mg : Str → Option Value} {base : Heap}
/-! check_kind: slots 0:kind -/
abbrev s_check_kind : Stmt := topS 24
theorem sc_check_kind : FnScope ["kind"] ["kind"] (defScope s_check_kind) := ⟨rfl, rfl, rfl, by decide +kernel, rfl, by decide +kernel, by decide +kernel⟩
def sp_check_kind : Sp := fun vs H Q _ => ∃ k : Str, vs = [.str k] ∧ KindOk k ∧ ∀ H', Same H H' → Q .non H'
theorem ok_check_kind (D : Df K mg "check_kind" s_check_kind) (G_is_kind : Has P w K mg base 1 "is_kind" ["value"] sp_is_kind) : Has P w K mg base 2 "check_kind" ["kind"] sp_check_kind := by
  refine has_of D sc_check_kind (fun _ _ _ _ _ _ us hl => match us, hl with | [_], _ => rfl) (fun vs H Q E h => ?_) (fun f cdv A outer s H vs Q E hr h => ?_)
  · obtain ⟨v, rfl, _⟩ := h
    rfl
  · obtain ⟨k, rfl, ok, q⟩ := h
    refine ⟨_, (pss_one (ps_if (pt_not (pt_val (pe_callH G_is_kind (hr.mono (by omega)) (by rfl) (pa_cons (pv 0) pa_nil)))) (pss_one ps_never) pss_nil)), ?_⟩
    exact ⟨_, rfl, k, rfl, ok, fun H1 s1 => ⟨_, rfl, iteF (q _ s1)⟩⟩
/-! only_first: slots 0:ranges 1:number 2:kept 3:first 4:last 5:size -/
abbrev s_only_first : Stmt := topS 34
theorem sc_only_first : FnScope ["ranges", "number", "kept", "first", "last", "size"] ["ranges", "number"] (defScope s_only_first) := ⟨rfl, rfl, rfl, by decide +kernel, rfl, by decide +kernel, by decide +kernel⟩
def sp_only_first : Sp := fun vs H Q _ => ∃ (a : Addr) (R : List Rg) (n : Int), vs = [.ref a, .int n] ∧ Rngs H a R ∧ R.length ≤ 100000 ∧ ∀ H' p, Same H H' → H p = none → Rngs H' p (ofR R n) → Q (.ref p) H'
theorem ok_only_first (D : Df K mg "only_first" s_only_first) (T : Tx mg) : Has P w K mg base 1 "only_first" ["ranges", "number"] sp_only_first := by
  refine has_of D sc_only_first (fun _ _ _ _ _ _ us hl => match us, hl with | [_, _], _ => rfl) (fun vs H Q E h => ?_) (fun f cdv A outer s₀ H vs Q E hr h => ?_)
  · obtain ⟨a, R, n, rfl, _⟩ := h
    rfl
  · obtain ⟨a, R, n, rfl, ⟨xs, hx, hp⟩, l4, q⟩ := h
    have lx : xs.length = R.length := Paired.len hp
    refine ⟨_, (pss_cons (ps_set (i := 2) sc_only_first.nd rfl (by first | exact Or.inl rfl | exact Or.inr rfl) (pe_lst pa_nil))
    (pss_cons (ps_for PassesOwn.never rfl (pi_list (pv 0)) (pg_tup rfl (pgs_cons (pg_name (i := 3) sc_only_first.nd rfl (by first | exact Or.inl rfl | exact Or.inr rfl)) (pgs_cons (pg_name (i := 4) sc_only_first.nd rfl (by first | exact Or.inl rfl | exact Or.inr rfl)) pgs_nil)))
      (pss_cons (ps_set (i := 5) sc_only_first.nd rfl (by first | exact Or.inl rfl | exact Or.inr rfl) (pe_callB (call_min2 rfl) (by rfl) T.n_min (by decide +kernel) (pa_cons (pv 1) (pa_cons (pe_op op_add (pe_op op_sub (pv 4) (pv 3)) pe_int) pa_nil))))
    (C8.pss_cut (ps_if (pt_cmpR op_gt (pv 5) pe_int (nomark _)) (pss_one (ps_expr (pe_bm PySem.F.plainAttrs_list PySem.F.slot_list_append PySem.F.type_list_append mt_append (pv 2) (pa_cons (pe_tup (pa_cons (pv 3) (pa_cons (pe_op op_sub (pe_op op_add (pv 3) (pv 5)) pe_int) pa_nil))) pa_nil)))) pss_nil)
    (pss_one (ps_aug (i := 1) sc_only_first.nd rfl (by first | exact Or.inl rfl | exact Or.inr rfl) (pv 5) ip_sub)))))
    (pss_one (ps_ret (pv 2))))), ?_⟩
    refine ⟨Nat.zero_le _, fun p np => ?_⟩
    refine ⟨_, rfl, a, rfl, ⟨xs, .of (same_upd np _ _ hx)⟩, for_list (K := K) (a := a) (xs := xs) (fun i σ H' => ∃ b y3 y4 y5, b = wfN (R.take i) n ∧ σ = [some (.ref a), some (.int b), some (.ref p), y3, y4, y5] ∧ Same H H' ∧ ∃ ys, H' p = some (.lst ys) ∧ Paired (PV H') ys (ofR (R.take i) n))
      ⟨n, none, none, none, rfl, rfl, same_upd np, [], upd_same, .nil⟩ (fun i σ H' _ hP => ?_) (fun i x σ H1 ex hP => ?_) (fun σ H1 hP => ?_)⟩
    · obtain ⟨_, _, _, _, _, _, sm, _⟩ := hP
      exact .of (sm _ _ hx)
    · obtain ⟨b, y3, y4, y5, rfl, rfl, sm, ys, hL, hy⟩ := hP
      obtain ⟨r, er, hr1⟩ := Paired.at hp ex
      have hi : i < xs.length := (List.getElem?_eq_some_iff.mp ex).1
      obtain ⟨t, rfl, ht⟩ := PV.same sm hr1
      have el : wfN (R.take (i + 1)) n = wfN (R.take i) n - rmR r (wfN (R.take i) n) := by rw [take_snoc er, wfN_snoc]
      have ec : ofR (R.take (i + 1)) n = ofR (R.take i) n ++ ofP r (wfN (R.take i) n) := by rw [take_snoc er, ofR_snoc]
      refine ⟨t, _, rfl, .of ht, rfl, _, _, rfl, _, _, rfl, rfl, ?_⟩
      refine ⟨_, rfl, _, rfl, _, rfl, _, _, rfl, rfl, _, _, rfl, rfl, _, _, rfl, ?_⟩
      refine ⟨fun σ' H' => σ' = [some (.ref a), some (.int (wfN (R.take i) n)), some (.ref p), some (.int r.1), some (.int r.2), some (.int (rmR r (wfN (R.take i) n)))] ∧ Same H H' ∧ ∃ ys, H' p = some (.lst ys) ∧ Paired (PV H') ys (ofR (R.take (i + 1)) n), ?_, fun σ' H5 hM => ?_⟩
      · refine ⟨_, rfl, _, _, rfl, rfl, _, rfl, ite2 (fun e => ?_) (fun e => ?_)⟩
        · have e : 0 < rmR r (wfN (R.take i) n) := of_decide_eq_true e
          have epc : ofP r (wfN (R.take i) n) = [(r.1, r.1 + rmR r (wfN (R.take i) n) - 1)] := if_pos e
          refine ⟨_, rfl, .inl ⟨rfl, _, SqL.of hL⟩, _, rfl, _, rfl, _, rfl, _, _, rfl, rfl, _, _, rfl, rfl, (by show 2 ≤ sizeLine; decide), fun u nn => ⟨p, _, _, rfl, rfl, same_upd nn _ _ hL, ?_, ?_⟩⟩
          · have h1 := Paired.len hy
            have h2 := ofR_len (R.take i) n
            rw [List.length_take] at h2
            exact small (by omega)
          · refine ⟨rfl, same_grow np (sm.trans (same_upd nn)), _, upd_same, ?_⟩
            rw [ec, epc]
            exact Paired.app (pvs_grow (same_upd nn _ _ hL) (pvs_same (same_upd nn) hy)) (.cons (PV.grow (same_upd nn _ _ hL) ⟨_, rfl, upd_same⟩) .nil)
        · have e : ¬ 0 < rmR r (wfN (R.take i) n) := fun z => e (decide_eq_true z)
          have epc : ofP r (wfN (R.take i) n) = [] := if_neg e
          refine ⟨rfl, sm, _, hL, ?_⟩
          rw [ec, epc, List.append_nil]
          exact hy
      · obtain ⟨rfl, s5, ys5, hL5, hy5⟩ := hM
        exact ⟨_, rfl, _, rfl, _, _, rfl, rfl, _, _, _, _, el.symm, rfl, s5, ys5, hL5, hy5⟩
    · obtain ⟨b, y3, y4, y5, rfl, rfl, sm, ys, hL, hy⟩ := hP
      rw [lx, List.take_length] at hy
      exact ⟨_, rfl, q H1 p sm np ⟨ys, hL, hy⟩⟩
/-! add_range: slots 0:ranges 1:first 2:last -/
abbrev s_add_range : Stmt := topS 33
theorem sc_add_range : FnScope ["ranges", "first", "last"] ["ranges", "first", "last"] (defScope s_add_range) := ⟨rfl, rfl, rfl, by decide +kernel, rfl, by decide +kernel, by decide +kernel⟩
def sp_add_range : Sp := fun vs H Q _ => ∃ (a : Addr) (R : List Rg) (f l : Int), vs = [.ref a, .int f, .int l] ∧ Rngs H a R ∧ R.length ≤ 100000 ∧ ∀ H', But a H H' → Rngs H' a (adR R f l) → Q .non H'
theorem ok_add_range (D : Df K mg "add_range" s_add_range) : Has P w K mg base 1 "add_range" ["ranges", "first", "last"] sp_add_range := by
  refine has_of D sc_add_range (fun _ _ _ _ _ _ us hl => match us, hl with | [_, _, _], _ => rfl) (fun vs H Q E h => ?_) (fun f cdv A outer s₀ H vs Q E hr h => ?_)
  · obtain ⟨a, R, x, l, rfl, _⟩ := h
    rfl
  · obtain ⟨a, R, x, l, rfl, ⟨xs, hx, hp⟩, l4, q⟩ := h
    have lx : xs.length = R.length := Paired.len hp
    have app : adR R x l = R ++ [(x, l)] → ∀ (p : Addr), H p = none → Q .non (upd (upd H p (.tup [.int x, .int l])) a (.lst (xs ++ [.ref p]))) := by
      intro e p np
      have hx1 := same_upd (o := .tup [.int x, .int l]) np _ _ hx
      refine q _ ((Same.but (same_upd np)).trans but_upd) ⟨_, upd_same, ?_⟩
      rw [e]
      exact Paired.app (pvs_grow hx1 (pvs_same (same_upd np) hp)) (.cons (PV.grow hx1 ⟨_, rfl, upd_same⟩) .nil)
    refine ⟨_, (pss_one (ps_if (PW.pt (pw_and (pt_truth (pv 0) (by intro _; rfl)) (pw_and1 (pt_cmpR op_eq (pe_op op_add (pe_ix ix_tup (pe_ix ix_list (pv 0) (pe_un un_neg pe_int) (fun _ _ => rfl)) pe_int (fun _ _ => rfl)) pe_int) (pv 1) (nomark _))))) (pss_one (ps_asg (pe_tup (pa_cons (pe_ix ix_tup (pe_ix ix_list (pv 0) (pe_un un_neg pe_int) (fun _ _ => rfl)) pe_int (fun _ _ => rfl)) (pa_cons (pv 2) pa_nil))) (pg_sub (pv 0) (pe_un un_neg pe_int) set_list))) (pss_one (ps_expr (pe_bm PySem.F.plainAttrs_list PySem.F.slot_list_append PySem.F.type_list_append mt_append (pv 0) (pa_cons (pe_tup (pa_cons (pv 1) (pa_cons (pv 2) pa_nil))) pa_nil)))))), ?_⟩
    rcases List.eq_nil_or_concat R with e0 | ⟨R0, y, e0⟩
    · subst e0
      cases hp
      refine ⟨_, rfl, false, .inl ⟨[], .of hx, rfl⟩, iteF ?_⟩
      exact ⟨_, rfl, .inl ⟨rfl, _, SqL.of hx⟩, _, rfl, _, rfl, (by show 2 ≤ sizeLine; decide), fun u nn => ⟨a, _, _, rfl, rfl, same_upd nn _ _ hx, small (by show 0 ≤ _; omega), app rfl u nn⟩⟩
    · rw [List.concat_eq_append] at e0
      subst e0
      obtain ⟨ys0, yv, rfl, hy0, ⟨tl, rfl, htl⟩⟩ := paired_snocR R0 y hp
      have exl : atI (ys0 ++ [V.ref tl]) (-1) = some (.ref tl) := atI_last _ _
      have tr : (!(ys0 ++ [V.ref tl]).isEmpty) = true := by cases ys0 <;> rfl
      have lx2 : (ys0 ++ [V.ref tl]).length ≤ 100000 := by rw [lx]; exact l4
      have ead : adR (R0 ++ [y]) x l = if y.2 + 1 = x then R0 ++ [(y.1, l)] else (R0 ++ [y]) ++ [(x, l)] := by
        unfold adR
        rw [List.getLast?_concat]
        show (if y.2 + 1 = x then _ else _) = _
        rw [List.dropLast_concat]
      refine ⟨_, rfl, true, .inl ⟨_, .of hx, tr.symm⟩, iteT ?_⟩
      refine ⟨_, rfl, 1, rfl, a, _, -1, _, rfl, rfl, .of hx, exl, tl, _, 1, _, rfl, rfl, .of htl, rfl, _, _, rfl, rfl, _, rfl, rfl, _, rfl, ?_⟩
      by_cases nt : y.2 + 1 = x
      · refine iteP (decide_eq_true (by show V.int (y.2 + 1) = V.int x; rw [nt])) ?_
        refine ⟨_, rfl, 1, rfl, a, _, -1, _, rfl, rfl, .of hx, exl, tl, _, 0, _, rfl, rfl, .of htl, rfl, _, rfl, (by show 2 ≤ sizeLine; decide), fun u nu => ?_⟩
        have su := same_upd (o := .tup [.int y.1, .int l]) nu
        have hx1 := su _ _ hx
        refine ⟨_, rfl, 1, rfl, a, _, -1, ys0.length, rfl, rfl, hx1, ?_, ?_⟩
        · rw [List.length_append]
          exact ixN_lastX
        · rw [set_lastX]
          refine q _ ((Same.but su).trans but_upd) ⟨_, upd_same, ?_⟩
          rw [ead, if_pos nt]
          exact Paired.app (pvs_grow hx1 (pvs_same su hy0)) (.cons (PV.grow hx1 ⟨_, rfl, upd_same⟩) .nil)
      · refine iteN (decide_eq_false fun z => nt (V.int.inj z)) ?_
        refine ⟨_, rfl, .inl ⟨rfl, _, SqL.of hx⟩, _, rfl, _, rfl, (by show 2 ≤ sizeLine; decide), fun u nn => ⟨a, _, _, rfl, rfl, same_upd nn _ _ hx, small (by omega), app ?_ u nn⟩⟩
        rw [ead, if_neg nt]
/-! ranges_after_run: slots 0:ranges 1:start 2:count 3:leaving 4:kept -/
abbrev s_ranges_after_run : Stmt := topS 36
theorem sc_ranges_after_run : FnScope ["ranges", "start", "count", "leaving", "kept"] ["ranges", "start", "count", "leaving"] (defScope s_ranges_after_run) := ⟨rfl, rfl, rfl, by decide +kernel, rfl, by decide +kernel, by decide +kernel⟩
def sp_ranges_after_run : Sp := fun vs H Q _ => ∃ (a : Addr) (R : List Rg) (b c n : Int), vs = [.ref a, .int b, .int c, .int n] ∧ Rngs H a R ∧ R.length ≤ 100000 ∧ ∀ H' p, Same H H' → H p = none → Rngs H' p (rarR R b c n) → Q (.ref p) H'
theorem ok_ranges_after_run (D : Df K mg "ranges_after_run" s_ranges_after_run) (G_without_first : Has P w K mg base 1 "without_first" ["ranges", "number"] sp_without_first) (G_add_range : Has P w K mg base 1 "add_range" ["ranges", "first", "last"] sp_add_range) : Has P w K mg base 2 "ranges_after_run" ["ranges", "start", "count", "leaving"] sp_ranges_after_run := by
  refine has_of D sc_ranges_after_run (fun _ _ _ _ _ _ us hl => match us, hl with | [_, _, _, _], _ => rfl) (fun vs H Q E h => ?_) (fun f cdv A outer s₀ H vs Q E hr h => ?_)
  · obtain ⟨a, R, b, c, n, rfl, _⟩ := h
    rfl
  · obtain ⟨a, R, b, c, n, rfl, hR, l4, q⟩ := h
    refine ⟨_, (pss_cons (ps_set (i := 4) sc_ranges_after_run.nd rfl (by first | exact Or.inl rfl | exact Or.inr rfl) (pe_callH G_without_first (hr.mono (by omega)) (by rfl) (pa_cons (pv 0) (pa_cons (pv 3) pa_nil))))
    (pss_cons (ps_if (pt_cmpR op_lt (pv 3) (pv 2) (nomark _)) (pss_one (ps_expr (pe_callH G_add_range (hr.mono (by omega)) (by rfl) (pa_cons (pv 4) (pa_cons (pe_op op_add (pv 1) (pv 3)) (pa_cons (pe_op op_sub (pe_op op_add (pv 1) (pv 2)) pe_int) pa_nil)))))) pss_nil)
    (pss_one (ps_ret (pv 4))))), ?_⟩
    refine ⟨_, rfl, _, rfl, a, R, n, rfl, hR, l4, fun H5 p5 s5 n5 h5 => ?_⟩
    have lw := wfR_len R n
    refine ⟨_, rfl, _, rfl, _, _, rfl, rfl, _, rfl, ite2 (fun e => ?_) (fun e => ?_)⟩
    · have e : n < c := of_decide_eq_true e
      have epc : rarR R b c n = adR (wfR R n) (b + n) (b + c - 1) := if_pos e
      refine ⟨_, rfl, _, rfl, _, rfl, _, _, rfl, rfl, _, rfl, _, rfl, _, _, rfl, rfl, _, _, rfl, rfl, p5, _, _, _, rfl, h5, by omega, fun H6 b6 h6 => ?_⟩
      refine ⟨_, rfl, q _ p5 (fun x o hx => b6 _ _ (ne_of_none hx n5) (s5 _ _ hx)) n5 ?_⟩
      rw [epc]
      exact h6
    · have e : ¬ n < c := fun z => e (decide_eq_true z)
      have epc : rarR R b c n = wfR R n := if_neg e
      refine ⟨_, rfl, q _ p5 s5 n5 ?_⟩
      rw [epc]
      exact h5
end
end UP

set_option Elab.async false
set_option linter.all false
set_option maxRecDepth 100000
set_option maxHeartbeats 4000000
set_option pp.maxSteps 300
namespace UP
open PySem PySem.Spec PyProof.Rows L2
/-! ### methods that keep a promise, by their names -/
section
variable (P : Program) (w : World) (K : PySem.W.Frag) (mg : Str → Option Value) (base : Heap) (C : Addr)
def HasM (k : Nat) (m : Str) (ps : List Str) (sp : Sp) : Prop := ∃ f fd, Meth K C m f ∧ Binds K fd ps [] ∧ FnOk P w K mg base CX0 k f fd ps sp
def HasI (k : Nat) (sp : Sp) : Prop := ∃ f fd, Mk K C f ∧ Binds K fd ["self"] [] ∧ FnOk P w K mg base CX0 k f fd ["self"] sp
/-- a method whose last parameter, kw, has the default d -/
def HasMD (k : Nat) (m : Str) (ps : List Str) (n : Nat) (kw : Str) (d : V) (sp : Sp) : Prop :=
  ∃ f fd, Meth K C m f ∧ Binds K fd ps [] ∧ (∃ ds, Vals [d] ds ∧ Binds K fd ps ds) ∧ KBn K fd ps n [kw] (fun us ws => us ++ ws) (fun vs zs => vs ++ zs) ∧ FnOk P w K mg base CX0 k f fd ps sp
def DfM (m q : Str) (st : Stmt) : Prop := ∃ f fd, Meth K C m f ∧ Fun K m q st f fd
def DfI (q : Str) (st : Stmt) : Prop := ∃ f fd, Mk K C f ∧ Fun K "__init__" q st f fd
def DfMD (m q : Str) (st : Stmt) (d : V) : Prop := ∃ f fd, Meth K C m f ∧ FunD K m q (defArgs st) (defBody st) (defScope st) [d] [] f fd
end
section
variable {P : Program} {w : World} {K : PySem.W.Frag} {mg : Str → Option Value} {base : Heap} {C : Addr}
theorem hasM_of {m q : Str} {st : Stmt} {ps N : List Str} {k : Nat} {sp : Sp} (D : DfM K C m q st) (S : FnScope N ps (defScope st))
    (hb : ∀ (kV doc pm : Value) (an : Option Addr) (cdv ct : Value) (us : List Value), us.length = ps.length → bindArgs (PySem.W.fnOf m q (defArgs st) (defBody st) (defScope st) .none kV doc pm an cdv ct) ⟨us, []⟩ = pure (ps.zip us))
    (len : ∀ vs H Q E, sp vs H Q E → vs.length = ps.length)
    (body : ∀ (f : Addr) (cdv : Value) (A : Around) (outer : List Env) (s : Shared) (H : Hp) (vs : List V) (Q : VK) (E : XK), Room k (A.deeper (envOfC q (defScope st) s.heap.objs.size f cdv)) → sp vs H Q E →
      ∃ t, PSs (cxOf CX0 P w K mg base N q (defScope st) f cdv A outer s H E).nox (defBody st) t ∧ t { nx := fun _ H' => Q .non H', rt := Q } (start N vs) H) :
    HasM P w K mg base C (k + 1) m ps sp := by
  obtain ⟨f, fd, g, F⟩ := D
  exact ⟨f, fd, g, F.binds hb, F.ok S len fun cdv A outer s H vs Q E hr h => body f cdv A outer s H vs Q E hr h⟩
theorem hasI_of {q : Str} {st : Stmt} {N : List Str} {k : Nat} {sp : Sp} (D : DfI K C q st) (S : FnScope N ["self"] (defScope st))
    (hb : ∀ (kV doc pm : Value) (an : Option Addr) (cdv ct : Value) (us : List Value), us.length = (["self"] : List Str).length → bindArgs (PySem.W.fnOf "__init__" q (defArgs st) (defBody st) (defScope st) .none kV doc pm an cdv ct) ⟨us, []⟩ = pure ((["self"] : List Str).zip us))
    (len : ∀ vs H Q E, sp vs H Q E → vs.length = (["self"] : List Str).length)
    (body : ∀ (f : Addr) (cdv : Value) (A : Around) (outer : List Env) (s : Shared) (H : Hp) (vs : List V) (Q : VK) (E : XK), Room k (A.deeper (envOfC q (defScope st) s.heap.objs.size f cdv)) → sp vs H Q E →
      ∃ t, PSs (cxOf CX0 P w K mg base N q (defScope st) f cdv A outer s H E).nox (defBody st) t ∧ t { nx := fun _ H' => Q .non H', rt := Q } (start N vs) H) :
    HasI P w K mg base C (k + 1) sp := by
  obtain ⟨f, fd, g, F⟩ := D
  exact ⟨f, fd, g, F.binds hb, F.ok S len fun cdv A outer s H vs Q E hr h => body f cdv A outer s H vs Q E hr h⟩
theorem hasM_ofD {m q kw : Str} {st : Stmt} {ps N : List Str} {k n : Nat} {d : V} {sp : Sp} (D : DfMD K C m q st d) (S : FnScope N ps (defScope st)) (hpn : ps.length = n + 1)
    (hb : ∀ (T : Addr) (kV doc pm : Value) (an : Option Addr) (cdv ct : Value) (us its : List Value), us.length = n + 1 → its.length = 1 →
      ∃ z, bindArgs (PySem.W.fnOf m q (defArgs st) (defBody st) (defScope st) (.ref T) kV doc pm an cdv ct) ⟨us, []⟩ = seqItems? (.ref T) >>= z ∧ z (some its.toArray) = pure (ps.zip us))
    (hb1 : ∀ (T : Addr) (kV doc pm : Value) (an : Option Addr) (cdv ct : Value) (us its : List Value), us.length = n → its.length = 1 →
      ∃ z, bindArgs (PySem.W.fnOf m q (defArgs st) (defBody st) (defScope st) (.ref T) kV doc pm an cdv ct) ⟨us, []⟩ = seqItems? (.ref T) >>= z ∧ z (some its.toArray) = pure (ps.zip (us ++ its)))
    (hb2 : ∀ (T : Addr) (kV doc pm : Value) (an : Option Addr) (cdv ct : Value) (us its : List Value) (v : Value), us.length = n → its.length = 1 →
      ∃ z, bindArgs (PySem.W.fnOf m q (defArgs st) (defBody st) (defScope st) (.ref T) kV doc pm an cdv ct) ⟨us, [(kw, v)]⟩ = seqItems? (.ref T) >>= z ∧ z (some its.toArray) = pure (ps.zip (us ++ [v])))
    (len : ∀ vs H Q E, sp vs H Q E → vs.length = ps.length)
    (body : ∀ (f : Addr) (cdv : Value) (A : Around) (outer : List Env) (s : Shared) (H : Hp) (vs : List V) (Q : VK) (E : XK), Room k (A.deeper (envOfC q (defScope st) s.heap.objs.size f cdv)) → sp vs H Q E →
      ∃ t, PSs (cxOf CX0 P w K mg base N q (defScope st) f cdv A outer s H E).nox (defBody st) t ∧ t { nx := fun _ H' => Q .non H', rt := Q } (start N vs) H) :
    HasMD P w K mg base C (k + 1) m ps n kw d sp := by
  obtain ⟨f, fd, g, F⟩ := D
  have B0 : Binds K fd ps [] := by
    obtain ⟨ds, v, b⟩ := F.binds1 (n + 1) 1 (ps := ps) (by intro z; cases z) (by rw [hpn]; rfl) fun T kV doc pm an cdv ct us its h1 h2 => by
      obtain ⟨z, e1, e2⟩ := hb T kV doc pm an cdv ct us its h1 h2
      refine ⟨z, e1, ?_⟩
      have h3 : its.length ≤ 1 := Nat.le_of_eq h2
      rw [e2, List.drop_of_length_le h3, List.append_nil]
    cases v
    exact b
  have B1 : ∃ ds, Vals [d] ds ∧ Binds K fd ps ds := by
    obtain ⟨ds, v, b⟩ := F.binds1 n 0 (ps := ps) (by intro z; cases z) (by rw [hpn]; rfl) fun T kV doc pm an cdv ct us its h1 h2 => by
      obtain ⟨z, e1, e2⟩ := hb1 T kV doc pm an cdv ct us its h1 h2
      exact ⟨z, e1, by rw [e2, List.drop_zero]⟩
    exact ⟨ds, v, b⟩
  have B2 : KBn K fd ps n [kw] (fun us ws => us ++ ws) (fun vs zs => vs ++ zs) := by
    refine ⟨fun s us ws X l1 l2 => ?_, fun r1 r2 => r1.append r2⟩
    obtain ⟨oc, od, dV, kV, doc, pm, an, cdv, ct, osl, rfl, lk, hcd, hD, _⟩ := F.ex
    rcases hD with ⟨z, _⟩ | ⟨_, T, o, its, j, rfl, lT, oT, rT⟩
    · cases z
    · match ws, l2 with
      | [v], _ =>
        obtain ⟨z, e1, e2⟩ := hb2 T kV doc pm an cdv ct us its v l1 rT.length.symm
        refine BindsTo.of_looks fun M => ?_
        show PySem.W.Looks M s.heap (bindArgs _ ⟨us, [(kw, v)]⟩) _
        rw [e1]
        exact looks_items X lT oT (.of_pure e2)
  refine ⟨f, fd, g, B0, B1, B2, F.ok S len fun cdv A outer s H vs Q E hr h => ?_⟩
  obtain ⟨t, p, q⟩ := body f cdv A outer s H vs Q E hr h
  exact ⟨t, p.nox, q⟩
end
section
variable {X : Cx} {C : Addr} {k n : Nat} {m kw : Str} {ps : List Str} {sp : Sp} {d : V} {o e : Expr} {es : List Expr} {ta : TE} {t : TA} {p pos apos : Pos}
theorem pe_methO {pl : Sem Bool} (he : PE X o ta) (c : Cls X.K C) (G : HasM X.prog X.w X.K X.mg X.base C k m ps sp) (hr : Room k X.A) (ha : PA X (e :: es) t)
    (hst : starEach (e :: es) X.env = (false, eval e X.env) :: starEach es X.env := by rfl) (hpl : (backTo pos (starEach es X.env)).any (·.1) = false := by rfl)
    (ht : eval (.Call (.Attribute o m apos) (e :: es) [] pos) X.env = (do
      let ov ← eval o X.env
      standAt apos.atName
      let (f, first) ← holding [ov] (getMethod ov m pl)
      callWith pos f first (backTo pos (starEach (e :: es) X.env)) (backToKw pos (keywordEach [] X.env))) := by rfl) :
    PE X (.Call (.Attribute o m apos) (e :: es) [] pos) (tMeth C m sp [] E0 ta t) := by
  obtain ⟨f, fd, hm, hb, F⟩ := G
  exact pe_meth he c hm F hr hb .nil pass0 ha hst hpl ht
theorem pe_methFO {pl : Sem Bool} (he : PE X o ta) (c : Cls X.K C) (G : HasMD X.prog X.w X.K X.mg X.base C k m ps n kw d sp) (hr : Room k X.A) (ha : PA X (e :: es) t)
    (hst : starEach (e :: es) X.env = (false, eval e X.env) :: starEach es X.env := by rfl) (hpl : (backTo pos (starEach es X.env)).any (·.1) = false := by rfl)
    (ht : eval (.Call (.Attribute o m apos) (e :: es) [] pos) X.env = (do
      let ov ← eval o X.env
      standAt apos.atName
      let (f, first) ← holding [ov] (getMethod ov m pl)
      callWith pos f first (backTo pos (starEach (e :: es) X.env)) (backToKw pos (keywordEach [] X.env))) := by rfl) :
    PE X (.Call (.Attribute o m apos) (e :: es) [] pos) (tMeth C m sp [] E0 ta t) := by
  obtain ⟨f, fd, hm, hb, _, _, F⟩ := G
  exact pe_meth he c hm F hr hb .nil pass0 ha hst hpl ht
theorem pe_methDO {pl : Sem Bool} (he : PE X o ta) (c : Cls X.K C) (G : HasMD X.prog X.w X.K X.mg X.base C k m ps n kw d sp) (hr : Room k X.A) (ha : PA X (e :: es) t)
    (hst : starEach (e :: es) X.env = (false, eval e X.env) :: starEach es X.env := by rfl) (hpl : (backTo pos (starEach es X.env)).any (·.1) = false := by rfl)
    (ht : eval (.Call (.Attribute o m apos) (e :: es) [] pos) X.env = (do
      let ov ← eval o X.env
      standAt apos.atName
      let (f, first) ← holding [ov] (getMethod ov m pl)
      callWith pos f first (backTo pos (starEach (e :: es) X.env)) (backToKw pos (keywordEach [] X.env))) := by rfl) :
    PE X (.Call (.Attribute o m apos) (e :: es) [] pos) (tMeth C m sp [d] E0 ta t) := by
  obtain ⟨f, fd, hm, _, ⟨ds, v, b⟩, _, F⟩ := G
  exact pe_meth he c hm F hr b v pass0 ha hst hpl ht
theorem pe_meth0O {pl : Sem Bool} (he : PE X o ta) (c : Cls X.K C) (G : HasM X.prog X.w X.K X.mg X.base C k m ps sp) (hr : Room k X.A)
    (ht : eval (.Call (.Attribute o m apos) [] [] pos) X.env = (do
      let ov ← eval o X.env
      standAt apos.atName
      let (f, first) ← holding [ov] (getMethod ov m pl)
      callWith pos f first (backTo pos (starEach [] X.env)) (backToKw pos (keywordEach [] X.env))) := by rfl) :
    PE X (.Call (.Attribute o m apos) [] [] pos) (tMeth C m sp [] E0 ta tNil) := by
  obtain ⟨f, fd, hm, hb, F⟩ := G
  exact pe_meth0 he c hm F hr hb .nil pass0 ht
theorem pe_makeO {x : Str} (hm : X.mg x = some (.ref C)) (G : HasI X.prog X.w X.K X.mg X.base C k sp) (hr : Room (k + 1) X.A) (hg : Gl X x) (hdb : (x == ("__debug__" : Str)) = false := by decide) :
    PE X (.Call (.Name x p) [] [] pos) (tMake C sp [] E0 tNil) := by
  obtain ⟨f, fd, M, hb, F⟩ := G
  exact pe_make0 M F hr hg hm hb .nil pass0 hdb
theorem pe_call0H {x : Str} (G : Has X.prog X.w X.K X.mg X.base k x ps sp) (hr : Room k X.A) (hg : Gl X x) (hdb : (x == ("__debug__" : Str)) = false := by decide) :
    PE X (.Call (.Name x p) [] [] pos) (tCall sp [] E0 tNil) := by
  obtain ⟨f, fd, g, kp, b, F⟩ := G
  exact pe_call0 F hr hg g kp b .nil pass0 hdb
end
/-! ### a station -/
def fl6 (st ra ar pa bl ps : V) : List (Str × V) := putF "past" ps (putF "blocks" bl (putF "paired" pa (putF "arrived" ar (putF "ranges" ra (putF "state" st [])))))
theorem putF_other {f g : Str} {v x : V} {r : List (Str × V)} (h : ¬ g = f) : putF f v ((g, x) :: r) = (g, x) :: putF f v r := if_neg h
theorem putF_hit {f : Str} {v x : V} {r : List (Str × V)} : putF f v ((f, x) :: r) = (f, v) :: r := if_pos rfl
theorem fl6_eq (st ra ar pa bl ps : V) : fl6 st ra ar pa bl ps = ([("state", st), ("ranges", ra), ("arrived", ar), ("paired", pa), ("blocks", bl), ("past", ps)] : List (Str × V)) := by
  unfold fl6
  have e1 : putF "ranges" ra (putF "state" st []) = [(("state" : Str), st), ("ranges", ra)] := putF_other (by decide +kernel)
  have e2 : putF "arrived" ar [(("state" : Str), st), ("ranges", ra)] = [(("state" : Str), st), ("ranges", ra), ("arrived", ar)] := by
    rw [putF_other (by decide +kernel), putF_other (by decide +kernel)]
    rfl
  have e3 : putF "paired" pa [(("state" : Str), st), ("ranges", ra), ("arrived", ar)] = [(("state" : Str), st), ("ranges", ra), ("arrived", ar), ("paired", pa)] := by
    rw [putF_other (by decide +kernel), putF_other (by decide +kernel), putF_other (by decide +kernel)]
    rfl
  have e4 : putF "blocks" bl [(("state" : Str), st), ("ranges", ra), ("arrived", ar), ("paired", pa)] = [(("state" : Str), st), ("ranges", ra), ("arrived", ar), ("paired", pa), ("blocks", bl)] := by
    rw [putF_other (by decide +kernel), putF_other (by decide +kernel), putF_other (by decide +kernel), putF_other (by decide +kernel)]
    rfl
  rw [e1, e2, e3, e4, putF_other (by decide +kernel), putF_other (by decide +kernel), putF_other (by decide +kernel), putF_other (by decide +kernel), putF_other (by decide +kernel)]
  rfl
theorem fl6_len (st ra ar pa bl ps : V) : (fl6 st ra ar pa bl ps).length < 1000 := by
  rw [fl6_eq]
  show 6 < 1000
  decide
theorem fl6_state (st ra ar pa bl ps : V) : (fl6 st ra ar pa bl ps).lookup ("state" : Str) = some st := by
  unfold fl6
  rw [lookup_putF, if_neg (by decide +kernel), lookup_putF, if_neg (by decide +kernel), lookup_putF, if_neg (by decide +kernel), lookup_putF, if_neg (by decide +kernel), lookup_putF, if_neg (by decide +kernel), lookup_putF, if_pos rfl]
theorem fl6_ranges (st ra ar pa bl ps : V) : (fl6 st ra ar pa bl ps).lookup ("ranges" : Str) = some ra := by
  unfold fl6
  rw [lookup_putF, if_neg (by decide +kernel), lookup_putF, if_neg (by decide +kernel), lookup_putF, if_neg (by decide +kernel), lookup_putF, if_neg (by decide +kernel), lookup_putF, if_pos rfl]
theorem fl6_arrived (st ra ar pa bl ps : V) : (fl6 st ra ar pa bl ps).lookup ("arrived" : Str) = some ar := by
  unfold fl6
  rw [lookup_putF, if_neg (by decide +kernel), lookup_putF, if_neg (by decide +kernel), lookup_putF, if_neg (by decide +kernel), lookup_putF, if_pos rfl]
theorem fl6_paired (st ra ar pa bl ps : V) : (fl6 st ra ar pa bl ps).lookup ("paired" : Str) = some pa := by
  unfold fl6
  rw [lookup_putF, if_neg (by decide +kernel), lookup_putF, if_neg (by decide +kernel), lookup_putF, if_pos rfl]
theorem fl6_blocks (st ra ar pa bl ps : V) : (fl6 st ra ar pa bl ps).lookup ("blocks" : Str) = some bl := by
  unfold fl6
  rw [lookup_putF, if_neg (by decide +kernel), lookup_putF, if_pos rfl]
theorem fl6_past (st ra ar pa bl ps : V) : (fl6 st ra ar pa bl ps).lookup ("past" : Str) = some ps := by
  unfold fl6
  rw [lookup_putF, if_pos rfl]
/-- no attribute of its own by another name -/
def NotF (m : Str) : Prop := ¬ m = "state" ∧ ¬ m = "ranges" ∧ ¬ m = "arrived" ∧ ¬ m = "paired" ∧ ¬ m = "blocks" ∧ ¬ m = "past"
theorem fl6_no {m : Str} (h : NotF m) (st ra ar pa bl ps : V) : (fl6 st ra ar pa bl ps).lookup m = none := by
  obtain ⟨h1, h2, h3, h4, h5, h6⟩ := h
  unfold fl6
  rw [lookup_putF, if_neg h6, lookup_putF, if_neg h5, lookup_putF, if_neg h4, lookup_putF, if_neg h3, lookup_putF, if_neg h2, lookup_putF, if_neg h1]
  rfl
theorem put_state {v st ra ar pa bl ps : V} : putF "state" v (fl6 st ra ar pa bl ps) = fl6 v ra ar pa bl ps := by
  rw [fl6_eq, fl6_eq, putF_hit]
theorem put_ranges {v st ra ar pa bl ps : V} : putF "ranges" v (fl6 st ra ar pa bl ps) = fl6 st v ar pa bl ps := by
  rw [fl6_eq, fl6_eq, putF_other (by decide +kernel), putF_hit]
theorem put_arrived {v st ra ar pa bl ps : V} : putF "arrived" v (fl6 st ra ar pa bl ps) = fl6 st ra v pa bl ps := by
  rw [fl6_eq, fl6_eq, putF_other (by decide +kernel), putF_other (by decide +kernel), putF_hit]
theorem put_paired {v st ra ar pa bl ps : V} : putF "paired" v (fl6 st ra ar pa bl ps) = fl6 st ra ar v bl ps := by
  rw [fl6_eq, fl6_eq, putF_other (by decide +kernel), putF_other (by decide +kernel), putF_other (by decide +kernel), putF_hit]
theorem put_blocks {v st ra ar pa bl ps : V} : putF "blocks" v (fl6 st ra ar pa bl ps) = fl6 st ra ar pa v ps := by
  rw [fl6_eq, fl6_eq, putF_other (by decide +kernel), putF_other (by decide +kernel), putF_other (by decide +kernel), putF_other (by decide +kernel), putF_hit]
end UP

set_option Elab.async false
set_option linter.all false
set_option maxRecDepth 100000
set_option maxHeartbeats 4000000
set_option pp.maxSteps 300
namespace UP
open PySem PySem.Spec PyProof.Rows L2
structure Sta where
  st : Option Run
  R : List Rg
  n : Int
  m : Int
  B : List Blk
abbrev Op := Str × Key × Int
def OpV (H : Hp) (v : V) (o : Op) : Prop := ∃ t, v = .ref t ∧ H t = some (.tup [.str o.1, kV o.2.1, .int o.2.2])
def PastV (H : Hp) (v : V) (o : Op) : Prop := ∃ t u b, v = .ref t ∧ H t = some (.tup [u, b]) ∧ OpV H u o
/-- tuples are kept -/
def Tk (H H' : Hp) : Prop := ∀ b xs, H b = some (.tup xs) → H' b = some (.tup xs)
theorem stk {H H' : Hp} (s : Same H H') : Tk H H' := fun b xs e => s _ _ e
theorem Tk.trans {H H1 H2 : Hp} (a : Tk H H1) (b : Tk H1 H2) : Tk H H2 := fun c xs e => b _ _ (a _ _ e)
theorem PV.tk {H H' : Hp} {v : V} {p : Rg} (k : Tk H H') (h : PV H v p) : PV H' v p := by
  obtain ⟨t, e, ht⟩ := h
  exact ⟨t, e, k _ _ ht⟩
theorem BV.tk {H H' : Hp} {v : V} {p : Blk} (k : Tk H H') (h : BV H v p) : BV H' v p := by
  obtain ⟨t, e, ht⟩ := h
  exact ⟨t, e, k _ _ ht⟩
theorem StV.tk {H H' : Hp} {v : V} {st : Option Run} (k : Tk H H') (h : StV H v st) : StV H' v st := by
  cases st with
  | none => exact h
  | some r =>
    obtain ⟨t, e, ht⟩ := h
    exact ⟨t, e, k _ _ ht⟩
theorem OpV.tk {H H' : Hp} {v : V} {o : Op} (k : Tk H H') (h : OpV H v o) : OpV H' v o := by
  obtain ⟨t, e, ht⟩ := h
  exact ⟨t, e, k _ _ ht⟩
theorem PastV.tk {H H' : Hp} {v : V} {o : Op} (k : Tk H H') (h : PastV H v o) : PastV H' v o := by
  obtain ⟨t, u, b, e, ht, ho⟩ := h
  exact ⟨t, u, b, e, k _ _ ht, ho.tk k⟩
theorem Rngs.tk {H H' : Hp} {a : Addr} {R : List Rg} (k : Tk H H') (c : ∀ o, H a = some o → H' a = some o) (h : Rngs H a R) : Rngs H' a R := by
  obtain ⟨xs, e, p⟩ := h
  exact ⟨xs, c _ e, Paired.imp (fun _ _ z => z.tk k) p⟩
theorem Blks.tk {H H' : Hp} {a : Addr} {R : List Blk} (k : Tk H H') (c : ∀ o, H a = some o → H' a = some o) (h : Blks H a R) : Blks H' a R := by
  obtain ⟨xs, e, p⟩ := h
  exact ⟨xs, c _ e, Paired.imp (fun _ _ z => z.tk k) p⟩
def Pst (H : Hp) (a : Addr) (ops : List Op) : Prop := ∃ xs, H a = some (.lst xs) ∧ Paired (PastV H) xs ops
theorem Pst.tk {H H' : Hp} {a : Addr} {R : List Op} (k : Tk H H') (c : ∀ o, H a = some o → H' a = some o) (h : Pst H a R) : Pst H' a R := by
  obtain ⟨xs, e, p⟩ := h
  exact ⟨xs, c _ e, Paired.imp (fun _ _ z => z.tk k) p⟩
theorem tk_but {H H' : Hp} {p : Addr} {o : HO} (hp : H p = some o) (no : ∀ xs, o ≠ .tup xs) (b : But p H H') : Tk H H' := fun c xs e => b _ _ (ne_of e hp (fun z => no xs z.symm)) e
theorem But.at {H H' : Hp} {p a : Addr} (b : But p H H') (n : a ≠ p) : ∀ o, H a = some o → H' a = some o := fun o e => b _ _ n e
/-- a station: its object, its list of operations, its ranges, its blocks -/
structure Stn (C : Addr) (H : Hp) (p ap ar ab : Addr) (S : Sta) (ops : List Op) : Prop where
  ob : ∃ dx v, H p = some (.ins C dx (fl6 v (.ref ar) (.int S.n) (.int S.m) (.ref ab) (.ref ap))) ∧ StV H v S.st
  rg : Rngs H ar S.R
  bl : Blks H ab S.B
  ps : Pst H ap ops
  n1 : ap ≠ ar
  n2 : ap ≠ ab
theorem Stn.keep {C : Addr} {H H' : Hp} {p ap ar ab : Addr} {S : Sta} {ops : List Op} (z : Stn C H p ap ar ab S ops) (k : Tk H H') (k1 : ∀ o, H p = some o → H' p = some o) (k2 : ∀ o, H ap = some o → H' ap = some o) (k3 : ∀ o, H ar = some o → H' ar = some o) (k4 : ∀ o, H ab = some o → H' ab = some o) : Stn C H' p ap ar ab S ops := by
  obtain ⟨⟨dx, v, h1, h2⟩, h3, h4, h5, h6, h7⟩ := z
  exact ⟨⟨dx, v, k1 _ h1, h2.tk k⟩, h3.tk k k3, h4.tk k k4, h5.tk k k2, h6, h7⟩
theorem Stn.same {C : Addr} {H H' : Hp} {p ap ar ab : Addr} {S : Sta} {ops : List Op} (z : Stn C H p ap ar ab S ops) (s : Same H H') : Stn C H' p ap ar ab S ops := z.keep (stk s) (fun _ e => s _ _ e) (fun _ e => s _ _ e) (fun _ e => s _ _ e) (fun _ e => s _ _ e)
/-- all but two objects are kept -/
def Fr (p ap : Addr) (H H' : Hp) : Prop := ∀ b o, b ≠ p → b ≠ ap → H b = some o → H' b = some o
theorem Fr.of {p ap : Addr} {H H' : Hp} (s : Same H H') : Fr p ap H H' := fun b o _ _ e => s _ _ e
theorem Fr.but1 {p ap : Addr} {H H' : Hp} (s : But p H H') : Fr p ap H H' := fun b o n _ e => s _ _ n e
theorem Fr.but2 {p ap : Addr} {H H' : Hp} (s : But ap H H') : Fr p ap H H' := fun b o _ n e => s _ _ n e
theorem Fr.trans {p ap : Addr} {H H1 H2 : Hp} (a : Fr p ap H H1) (b : Fr p ap H1 H2) : Fr p ap H H2 := fun c o n m e => b _ _ n m (a _ _ n m e)
def arrS (S : Sta) (k : Str) (c : Int) : Sta := ⟨stepR S.st k c, rarR S.R S.n c (leavR S.st k c), S.n + c, S.m + leavR S.st k c, S.B ++ brR S.R S.n (leavR S.st k c)⟩
def givS (S : Sta) (i c : Int) (k : Str) : Sta := ⟨withR k (numR S.st - c), ofR S.R i ++ wfR (wfR S.R i) c, S.n, S.m, S.B⟩
/-- the class, as the top has made it -/
structure ClsT (K : PySem.W.Frag) (mg : Str → Option Value) (C : Addr) : Prop where
  cl : Cls K C
  n1 : NoAttr K C "state"
  n2 : NoAttr K C "ranges"
  n3 : NoAttr K C "arrived"
  n4 : NoAttr K C "paired"
  n5 : NoAttr K C "blocks"
  n6 : NoAttr K C "past"
  mkS : mg "Station" = some (.ref C)
theorem nf_remember : NotF "remember" := ⟨by decide +kernel, by decide +kernel, by decide +kernel, by decide +kernel, by decide +kernel, by decide +kernel⟩
section
variable {P : Program} {w : World} {K : PySem.W.Frag} {mg : Str → Option Value} {base : Heap} {C : Addr}
/-! Station.__init__: slots 0:self -/
abbrev s_Station___init__ : Stmt := inClass (topS 41) 0
theorem sc_Station___init__ : FnScope ["self"] ["self"] (defScope s_Station___init__) := ⟨rfl, rfl, rfl, by decide +kernel, rfl, by decide +kernel, by decide +kernel⟩
def sp_Station_init (C : Addr) : Sp := fun vs H Q _ => ∃ (p dx : Addr), vs = [.ref p] ∧ H p = some (.ins C dx []) ∧ ∀ H' ap ar ab, But p H H' → H ap = none → H ar = none → H ab = none → Stn C H' p ap ar ab ⟨none, [], 0, 0, []⟩ [] → Q .non H'
theorem ok_Station___init__ (D : DfI K C "Station.__init__" s_Station___init__) (TS : ClsT K mg C) : HasI P w K mg base C 1 (sp_Station_init C) := by
  refine hasI_of D sc_Station___init__ (fun _ _ _ _ _ _ us hl => match us, hl with | [_], _ => rfl) (fun vs H Q E h => ?_) (fun f cdv A outer s₀ H vs Q E hr h => ?_)
  · obtain ⟨_, _, rfl, _⟩ := h
    rfl
  · obtain ⟨p, dx, rfl, hp, q⟩ := h
    refine ⟨_, (pss_cons (ps_fld (pv 0) pe_non rfl)
    (pss_cons (ps_fld (pv 0) (pe_lst pa_nil) rfl)
    (pss_cons (ps_fld (pv 0) pe_int rfl)
    (pss_cons (ps_fld (pv 0) pe_int rfl)
    (pss_cons (ps_fld (pv 0) (pe_lst pa_nil) rfl)
    (pss_one (ps_fld (pv 0) (pe_lst pa_nil) rfl))))))), ?_⟩
    have ls : ∀ {f : Str} {v : V} {fs : List (Str × V)} {j : Nat}, fs.length ≤ j → (putF f v fs).length ≤ j + 1 := fun h => Nat.le_trans (length_putF _ _ _) (Nat.add_le_add_right h 1)
    have l1 : (putF "state" V.non []).length ≤ 1 := ls (Nat.le_refl 0)
    refine ⟨_, rfl, p, C, dx, [], rfl, hp, TS.cl, TS.n1, (by show 0 < 1000; decide), ?_⟩
    have h1 : (upd H p (.ins C dx (putF "state" V.non []))) p = some (.ins C dx (putF "state" V.non [])) := upd_same
    have b1 : But p H (upd H p (.ins C dx (putF "state" V.non []))) := but_upd
    generalize upd H p (.ins C dx (putF "state" V.non [])) = H1 at *
    refine ⟨Nat.zero_le _, fun ar nr => ?_⟩
    have s2 := same_upd (o := .lst []) nr
    have hr2 : (upd H1 ar (.lst [])) ar = some (.lst []) := upd_same
    generalize upd H1 ar (.lst []) = H2 at *
    have l2 : (putF "ranges" (V.ref ar) (putF "state" V.non [])).length ≤ 2 := ls l1
    refine ⟨_, rfl, p, C, dx, _, rfl, s2 _ _ h1, TS.cl, TS.n2, by omega, ?_⟩
    have pr : ar ≠ p := (ne_of_none h1 nr).symm
    have h3 : (upd H2 p (.ins C dx (putF "ranges" (V.ref ar) (putF "state" V.non [])))) p = some (.ins C dx (putF "ranges" (V.ref ar) (putF "state" V.non []))) := upd_same
    have b3 : But p H2 (upd H2 p (.ins C dx (putF "ranges" (V.ref ar) (putF "state" V.non [])))) := but_upd
    generalize upd H2 p (.ins C dx (putF "ranges" (V.ref ar) (putF "state" V.non []))) = H3 at *
    have l3 : (putF "arrived" (V.int 0) (putF "ranges" (V.ref ar) (putF "state" V.non []))).length ≤ 3 := ls l2
    refine ⟨_, rfl, p, C, dx, _, rfl, h3, TS.cl, TS.n3, by omega, ?_⟩
    have h4 : (upd H3 p (.ins C dx (putF "arrived" (V.int 0) (putF "ranges" (V.ref ar) (putF "state" V.non []))))) p = some (.ins C dx (putF "arrived" (V.int 0) (putF "ranges" (V.ref ar) (putF "state" V.non [])))) := upd_same
    have b4 : But p H3 (upd H3 p (.ins C dx (putF "arrived" (V.int 0) (putF "ranges" (V.ref ar) (putF "state" V.non []))))) := but_upd
    generalize upd H3 p (.ins C dx (putF "arrived" (V.int 0) (putF "ranges" (V.ref ar) (putF "state" V.non [])))) = H4 at *
    have l4 : (putF "paired" (V.int 0) (putF "arrived" (V.int 0) (putF "ranges" (V.ref ar) (putF "state" V.non [])))).length ≤ 4 := ls l3
    refine ⟨_, rfl, p, C, dx, _, rfl, h4, TS.cl, TS.n4, by omega, ?_⟩
    have h5 : (upd H4 p (.ins C dx (putF "paired" (V.int 0) (putF "arrived" (V.int 0) (putF "ranges" (V.ref ar) (putF "state" V.non [])))))) p = some (.ins C dx (putF "paired" (V.int 0) (putF "arrived" (V.int 0) (putF "ranges" (V.ref ar) (putF "state" V.non []))))) := upd_same
    have b5 : But p H4 (upd H4 p (.ins C dx (putF "paired" (V.int 0) (putF "arrived" (V.int 0) (putF "ranges" (V.ref ar) (putF "state" V.non [])))))) := but_upd
    generalize upd H4 p (.ins C dx (putF "paired" (V.int 0) (putF "arrived" (V.int 0) (putF "ranges" (V.ref ar) (putF "state" V.non []))))) = H5 at *
    refine ⟨Nat.zero_le _, fun ab nb => ?_⟩
    have s6 := same_upd (o := .lst []) nb
    have hb6 : (upd H5 ab (.lst [])) ab = some (.lst []) := upd_same
    generalize upd H5 ab (.lst []) = H6 at *
    have pb : ab ≠ p := (ne_of_none h5 nb).symm
    have l5 : (putF "blocks" (V.ref ab) (putF "paired" (V.int 0) (putF "arrived" (V.int 0) (putF "ranges" (V.ref ar) (putF "state" V.non []))))).length ≤ 5 := ls l4
    refine ⟨_, rfl, p, C, dx, _, rfl, s6 _ _ h5, TS.cl, TS.n5, by omega, ?_⟩
    have h7 : (upd H6 p (.ins C dx (putF "blocks" (V.ref ab) (putF "paired" (V.int 0) (putF "arrived" (V.int 0) (putF "ranges" (V.ref ar) (putF "state" V.non []))))))) p = some (.ins C dx (putF "blocks" (V.ref ab) (putF "paired" (V.int 0) (putF "arrived" (V.int 0) (putF "ranges" (V.ref ar) (putF "state" V.non [])))))) := upd_same
    have b7 : But p H6 (upd H6 p (.ins C dx (putF "blocks" (V.ref ab) (putF "paired" (V.int 0) (putF "arrived" (V.int 0) (putF "ranges" (V.ref ar) (putF "state" V.non []))))))) := but_upd
    generalize upd H6 p (.ins C dx (putF "blocks" (V.ref ab) (putF "paired" (V.int 0) (putF "arrived" (V.int 0) (putF "ranges" (V.ref ar) (putF "state" V.non [])))))) = H7 at *
    refine ⟨Nat.zero_le _, fun ap na => ?_⟩
    have s8 := same_upd (o := .lst []) na
    have ha8 : (upd H7 ap (.lst [])) ap = some (.lst []) := upd_same
    generalize upd H7 ap (.lst []) = H8 at *
    have pa : ap ≠ p := (ne_of_none h7 na).symm
    refine ⟨_, rfl, p, C, dx, _, rfl, s8 _ _ h7, TS.cl, TS.n6, by omega, ?_⟩
    have B7 : But p H H7 := b1.trans ((Same.but s2).trans (b3.trans (b4.trans (b5.trans ((Same.but s6).trans b7)))))
    have r7 : H7 ar = some (.lst []) := b7 _ _ pr (s6 _ _ (b5 _ _ pr (b4 _ _ pr (b3 _ _ pr hr2))))
    have q7 : H7 ab = some (.lst []) := b7 _ _ pb hb6
    have fr : ∀ {H0 : Hp} {x : Addr}, But p H H0 → H0 x = none → x ≠ p → H x = none := fun {H0 x} b e n => by
      cases z : H x with
      | none => rfl
      | some o =>
        rw [b _ _ n z] at e
        cases e
    refine q _ ap ar ab ((B7.trans (Same.but s8)).trans but_upd) (fr B7 na pa) (fr b1 nr pr) (fr (b1.trans ((Same.but s2).trans (b3.trans (b4.trans b5)))) nb pb)
      ⟨⟨dx, .non, upd_same, rfl⟩, ⟨[], but_upd _ _ pr (s8 _ _ r7), .nil⟩, ⟨[], but_upd _ _ pb (s8 _ _ q7), .nil⟩, ⟨[], but_upd _ _ pa ha8, .nil⟩, ?_, ?_⟩
    · exact (ne_of_none r7 na).symm
    · exact (ne_of_none q7 na).symm
/-! Station.remember: slots 0:self 1:operation 2:before -/
abbrev s_Station_remember : Stmt := inClass (topS 41) 3
theorem sc_Station_remember : FnScope ["self", "operation", "before"] ["self", "operation"] (defScope s_Station_remember) := ⟨rfl, rfl, rfl, by decide +kernel, rfl, by decide +kernel, by decide +kernel⟩
end
end UP

set_option Elab.async false
set_option linter.all false
set_option maxRecDepth 100000
set_option maxHeartbeats 4000000
set_option pp.maxSteps 300
namespace UP
open PySem PySem.Spec PyProof.Rows L2
theorem num_le {st : Option Run} (h : PosO st) : 0 ≤ numR st := by
  cases st with
  | none => exact Int.le_refl _
  | some r =>
    have := h r rfl
    show 0 ≤ r.2
    omega
section
variable {P : Program} {w : World} {K : PySem.W.Frag} {mg : Str → Option Value} {base : Heap} {C : Addr}
/-! Station.arrive: slots 0:self 1:kind 2:count 3:leaving -/
abbrev s_Station_arrive : Stmt := inClass (topS 41) 4
theorem sc_Station_arrive : FnScope ["self", "kind", "count", "leaving"] ["self", "kind", "count"] (defScope s_Station_arrive) := ⟨rfl, rfl, rfl, by decide +kernel, rfl, by decide +kernel, by decide +kernel⟩
/-! Station.give_up: slots 0:self 1:index 2:count 3:waiting 4:later -/
abbrev s_Station_give_up : Stmt := inClass (topS 41) 5
theorem sc_Station_give_up : FnScope ["self", "index", "count", "waiting", "later"] ["self", "index", "count"] (defScope s_Station_give_up) := ⟨rfl, rfl, rfl, by decide +kernel, rfl, by decide +kernel, by decide +kernel⟩
/-! Station.current_state: slots 0:self -/
abbrev s_Station_current_state : Stmt := inClass (topS 41) 7
theorem sc_Station_current_state : FnScope ["self"] ["self"] (defScope s_Station_current_state) := ⟨rfl, rfl, rfl, by decide +kernel, rfl, by decide +kernel, by decide +kernel⟩
def sp_Station_current_state (C : Addr) : Sp := fun vs H Q _ => ∃ (p ap ar ab : Addr) (S : Sta) (ops : List Op), vs = [.ref p] ∧ Stn C H p ap ar ab S ops ∧ ∀ v, StV H v S.st → Q v H
theorem ok_Station_current_state (D : DfM K C "current_state" "Station.current_state" s_Station_current_state) (TS : ClsT K mg C) : HasM P w K mg base C 1 "current_state" ["self"] (sp_Station_current_state C) := by
  refine hasM_of D sc_Station_current_state (fun _ _ _ _ _ _ us hl => match us, hl with | [_], _ => rfl) (fun vs H Q E h => ?_) (fun f cdv A outer s₀ H vs Q E hr h => ?_)
  · obtain ⟨_, _, _, _, _, _, rfl, _⟩ := h
    rfl
  · obtain ⟨p, ap, ar, ab, S, ops, rfl, z, q⟩ := h
    obtain ⟨⟨dx, v, hp, hv⟩, _⟩ := z
    refine ⟨_, (pss_one (ps_ret (pe_fld (pv 0) rfl))), ?_⟩
    exact ⟨_, rfl, p, C, dx, _, _, rfl, hp, TS.cl, TS.n1, fl6_state .., q _ hv⟩
/-! Station.waiting_positions: slots 0:self -/
abbrev s_Station_waiting_positions : Stmt := inClass (topS 41) 8
theorem sc_Station_waiting_positions : FnScope ["self"] ["self"] (defScope s_Station_waiting_positions) := ⟨rfl, rfl, rfl, by decide +kernel, rfl, by decide +kernel, by decide +kernel⟩
def sp_Station_waiting_positions (C : Addr) : Sp := fun vs H Q _ => ∃ (p ap ar ab : Addr) (S : Sta) (ops : List Op), vs = [.ref p] ∧ Stn C H p ap ar ab S ops ∧ ∀ H' l, Same H H' → H l = none → Rngs H' l S.R → Q (.ref l) H'
theorem ok_Station_waiting_positions (D : DfM K C "waiting_positions" "Station.waiting_positions" s_Station_waiting_positions) (T : Tx mg) (TS : ClsT K mg C) : HasM P w K mg base C 1 "waiting_positions" ["self"] (sp_Station_waiting_positions C) := by
  refine hasM_of D sc_Station_waiting_positions (fun _ _ _ _ _ _ us hl => match us, hl with | [_], _ => rfl) (fun vs H Q E h => ?_) (fun f cdv A outer s₀ H vs Q E hr h => ?_)
  · obtain ⟨_, _, _, _, _, _, rfl, _⟩ := h
    rfl
  · obtain ⟨p, ap, ar, ab, S, ops, rfl, z, q⟩ := h
    obtain ⟨⟨dx, v, hp, hv⟩, ⟨xs, hx, hxp⟩, _⟩ := z
    refine ⟨_, (pss_one (ps_ret (pe_callTy call_list_of (by rfl) T.n_list (by decide +kernel) (pa_cons (pe_fld (pv 0) rfl) pa_nil)))), ?_⟩
    exact ⟨_, rfl, p, C, dx, _, _, rfl, hp, TS.cl, TS.n2, fl6_ranges .., ar, xs, rfl, .inl (.of hx), fun l nl => q _ l (same_upd nl) nl ⟨xs, upd_same, pvs_same (same_upd nl) hxp⟩⟩
/-! Station.arrival_count: slots 0:self -/
abbrev s_Station_arrival_count : Stmt := inClass (topS 41) 9
theorem sc_Station_arrival_count : FnScope ["self"] ["self"] (defScope s_Station_arrival_count) := ⟨rfl, rfl, rfl, by decide +kernel, rfl, by decide +kernel, by decide +kernel⟩
def sp_Station_arrival_count (C : Addr) : Sp := fun vs H Q _ => ∃ (p ap ar ab : Addr) (S : Sta) (ops : List Op), vs = [.ref p] ∧ Stn C H p ap ar ab S ops ∧ Q (.int S.n) H
theorem ok_Station_arrival_count (D : DfM K C "arrival_count" "Station.arrival_count" s_Station_arrival_count) (TS : ClsT K mg C) : HasM P w K mg base C 1 "arrival_count" ["self"] (sp_Station_arrival_count C) := by
  refine hasM_of D sc_Station_arrival_count (fun _ _ _ _ _ _ us hl => match us, hl with | [_], _ => rfl) (fun vs H Q E h => ?_) (fun f cdv A outer s₀ H vs Q E hr h => ?_)
  · obtain ⟨_, _, _, _, _, _, rfl, _⟩ := h
    rfl
  · obtain ⟨p, ap, ar, ab, S, ops, rfl, z, q⟩ := h
    obtain ⟨⟨dx, v, hp, hv⟩, _⟩ := z
    refine ⟨_, (pss_one (ps_ret (pe_fld (pv 0) rfl))), ?_⟩
    exact ⟨_, rfl, p, C, dx, _, _, rfl, hp, TS.cl, TS.n3, fl6_arrived .., q⟩
/-! Station.pair_total: slots 0:self -/
abbrev s_Station_pair_total : Stmt := inClass (topS 41) 10
theorem sc_Station_pair_total : FnScope ["self"] ["self"] (defScope s_Station_pair_total) := ⟨rfl, rfl, rfl, by decide +kernel, rfl, by decide +kernel, by decide +kernel⟩
def sp_Station_pair_total (C : Addr) : Sp := fun vs H Q _ => ∃ (p ap ar ab : Addr) (S : Sta) (ops : List Op), vs = [.ref p] ∧ Stn C H p ap ar ab S ops ∧ Q (.int S.m) H
theorem ok_Station_pair_total (D : DfM K C "pair_total" "Station.pair_total" s_Station_pair_total) (TS : ClsT K mg C) : HasM P w K mg base C 1 "pair_total" ["self"] (sp_Station_pair_total C) := by
  refine hasM_of D sc_Station_pair_total (fun _ _ _ _ _ _ us hl => match us, hl with | [_], _ => rfl) (fun vs H Q E h => ?_) (fun f cdv A outer s₀ H vs Q E hr h => ?_)
  · obtain ⟨_, _, _, _, _, _, rfl, _⟩ := h
    rfl
  · obtain ⟨p, ap, ar, ab, S, ops, rfl, z, q⟩ := h
    obtain ⟨⟨dx, v, hp, hv⟩, _⟩ := z
    refine ⟨_, (pss_one (ps_ret (pe_fld (pv 0) rfl))), ?_⟩
    exact ⟨_, rfl, p, C, dx, _, _, rfl, hp, TS.cl, TS.n4, fl6_paired .., q⟩
/-! Station.partner_at: slots 0:self 1:position -/
abbrev s_Station_partner_at : Stmt := inClass (topS 41) 12
theorem sc_Station_partner_at : FnScope ["self", "position"] ["self", "position"] (defScope s_Station_partner_at) := ⟨rfl, rfl, rfl, by decide +kernel, rfl, by decide +kernel, by decide +kernel⟩
def sp_Station_partner_at (C : Addr) : Sp := fun vs H Q _ => ∃ (p ap ar ab : Addr) (S : Sta) (ops : List Op) (i : Int), vs = [.ref p, .int i] ∧ Stn C H p ap ar ab S ops ∧ 0 ≤ i ∧ i < S.n ∧ Q (oI (pgR S.B i)) H
theorem ok_Station_partner_at (D : DfM K C "partner_at" "Station.partner_at" s_Station_partner_at) (TS : ClsT K mg C) (G_is_within : Has P w K mg base 2 "is_within" ["value", "low", "high"] sp_is_within) (G_partner_in : Has P w K mg base 1 "partner_in" ["blocks", "position"] sp_partner_in) : HasM P w K mg base C 3 "partner_at" ["self", "position"] (sp_Station_partner_at C) := by
  refine hasM_of D sc_Station_partner_at (fun _ _ _ _ _ _ us hl => match us, hl with | [_, _], _ => rfl) (fun vs H Q E h => ?_) (fun f cdv A outer s₀ H vs Q E hr h => ?_)
  · obtain ⟨_, _, _, _, _, _, _, rfl, _⟩ := h
    rfl
  · obtain ⟨p, ap, ar, ab, S, ops, i, rfl, z, i0, i1, q⟩ := h
    obtain ⟨⟨dx, v, hp, hv⟩, _, hB, _⟩ := z
    refine ⟨_, (pss_cons (ps_if (pt_not (pt_val (pe_callH G_is_within (hr.mono (by omega)) (by rfl) (pa_cons (pv 1) (pa_cons pe_int (pa_cons (pe_op op_sub (pe_fld (pv 0) rfl) pe_int) pa_nil)))))) (pss_one ps_never) pss_nil)
    (pss_one (ps_ret (pe_callH G_partner_in (hr.mono (by omega)) (by rfl) (pa_cons (pe_fld (pv 0) rfl) (pa_cons (pv 1) pa_nil)))))), ?_⟩
    refine ⟨_, rfl, _, rfl, p, C, dx, _, _, rfl, hp, TS.cl, TS.n3, fl6_arrived .., _, _, rfl, rfl, i, 0, _, rfl, _, rfl, iteN ?_ ?_⟩
    · rw [decide_eq_true ⟨i0, by omega⟩]
      rfl
    exact ⟨_, rfl, p, C, dx, _, _, rfl, hp, TS.cl, TS.n5, fl6_blocks .., _, rfl, ab, S.B, i, rfl, hB, q⟩
end
end UP

set_option Elab.async false
set_option linter.all false
set_option maxRecDepth 100000
set_option maxHeartbeats 4000000
set_option pp.maxSteps 300
namespace UP
open PySem PySem.Spec PyProof.Rows L2
/-! ### items one by one at a station -/
structure Mod where
  k : Str
  q : List Int
  P : List Pr
  c : Int
  g : Int
def oneM (M : Mod) (k : Str) : Mod := if M.q = [] ∨ M.k = k then ⟨k, M.q ++ [M.c], M.P, M.c + 1, M.g⟩ else ⟨M.k, M.q.drop 1, M.P ++ zpL (M.q.take 1) M.c, M.c + 1, M.g⟩
def arrM (M : Mod) (k : Str) : Nat → Mod
  | 0 => M
  | n + 1 => oneM (arrM M k n) k
def levM (M : Mod) (i n : Nat) : Mod := ⟨M.k, M.q.take i ++ M.q.drop (i + n), M.P, M.c, M.g + n⟩
theorem arr_c (M : Mod) (k : Str) : ∀ n : Nat, (arrM M k n).c = M.c + n
  | 0 => by
    show M.c = M.c + ((0 : Nat) : Int)
    omega
  | n + 1 => by
    have := arr_c M k n
    show (oneM (arrM M k n) k).c = _
    unfold oneM
    split
    · show (arrM M k n).c + 1 = _
      omega
    · show (arrM M k n).c + 1 = _
      omega
theorem arr_g (M : Mod) (k : Str) : ∀ n : Nat, (arrM M k n).g = M.g
  | 0 => rfl
  | n + 1 => by
    show (oneM (arrM M k n) k).g = _
    unfold oneM
    split <;> exact arr_g M k n
/-- the same kind, or nobody: all wait -/
theorem arr_same {M : Mod} {k : Str} (h : M.q = [] ∨ M.k = k) : ∀ n : Nat, (arrM M k n).q = M.q ++ posL M.c n ∧ (arrM M k n).P = M.P ∧ (arrM M k n).k = if n = 0 then M.k else k
  | 0 => ⟨(List.append_nil _).symm, rfl, rfl⟩
  | n + 1 => by
    obtain ⟨h1, h2, h3⟩ := arr_same h n
    have c : (arrM M k n).q = [] ∨ (arrM M k n).k = k := by
      by_cases n0 : n = 0
      · subst n0
        exact h
      · exact .inr (by rw [h3, if_neg n0])
    have e : arrM M k (n + 1) = ⟨k, (arrM M k n).q ++ [(arrM M k n).c], (arrM M k n).P, (arrM M k n).c + 1, (arrM M k n).g⟩ := if_pos c
    rw [e]
    refine ⟨?_, h2, by rw [if_neg (by omega)]⟩
    show (arrM M k n).q ++ [(arrM M k n).c] = _
    rw [h1, arr_c, posL_app n 1, List.append_assoc]
    rfl
theorem zp_take {q : List Int} {n : Nat} {x c : Int} (h : q[n]? = some x) : zpL (q.take (n + 1)) c = zpL (q.take n) c ++ [(x, c + n)] := by
  rw [take_snoc h, zpL_app]
  have : (q.take n).length = n := by
    have := (List.getElem?_eq_some_iff.mp h).1
    rw [List.length_take]
    omega
  rw [this]
  rfl
/-- another kind: pairs leave, what is left over waits -/
theorem arr_other {M : Mod} {k : Str} (h : ¬ (M.q = [] ∨ M.k = k)) : ∀ n : Nat, (arrM M k n).q = M.q.drop n ++ posL (M.c + M.q.length) (n - M.q.length) ∧ (arrM M k n).P = M.P ++ zpL (M.q.take n) M.c ∧ (arrM M k n).k = if M.q.length < n then k else M.k
  | 0 => by
    refine ⟨?_, ?_, ?_⟩
    · rw [Nat.zero_sub]
      exact (List.append_nil _).symm
    · exact (List.append_nil _).symm
    · rw [if_neg (by omega)]
      rfl
  | n + 1 => by
    obtain ⟨h1, h2, h3⟩ := arr_other h n
    have hc := arr_c M k n
    have hk : ¬ M.k = k := fun z => h (.inr z)
    by_cases c : n < M.q.length
    · obtain ⟨x, ex⟩ : ∃ x, M.q[n]? = some x := ⟨_, List.getElem?_eq_getElem c⟩
      have eq : (arrM M k n).q = x :: M.q.drop (n + 1) := by
        rw [h1, show n - M.q.length = 0 by omega, drop_at ex]
        exact List.append_nil _
      have ek : (arrM M k n).k = M.k := by rw [h3, if_neg (by omega)]
      have e : arrM M k (n + 1) = ⟨(arrM M k n).k, (arrM M k n).q.drop 1, (arrM M k n).P ++ zpL ((arrM M k n).q.take 1) (arrM M k n).c, (arrM M k n).c + 1, (arrM M k n).g⟩ := if_neg (by
        rintro (z | z)
        · rw [eq] at z
          cases z
        · exact hk (by rw [← ek]; exact z))
      rw [e]
      refine ⟨?_, ?_, ?_⟩
      · show (arrM M k n).q.drop 1 = _
        rw [eq, show n + 1 - M.q.length = 0 by omega]
        exact (List.append_nil _).symm
      · show (arrM M k n).P ++ zpL ((arrM M k n).q.take 1) (arrM M k n).c = _
        rw [h2, eq, hc, zp_take ex, List.append_assoc]
        rfl
      · show (arrM M k n).k = _
        rw [ek, if_neg (by omega)]
    · have e : arrM M k (n + 1) = ⟨k, (arrM M k n).q ++ [(arrM M k n).c], (arrM M k n).P, (arrM M k n).c + 1, (arrM M k n).g⟩ := if_pos (by
        by_cases c2 : n = M.q.length
        · refine .inl ?_
          rw [h1, List.drop_of_length_le (by omega), show n - M.q.length = 0 by omega]
          rfl
        · exact .inr (by rw [h3, if_pos (by omega)]))
      rw [e]
      refine ⟨?_, ?_, ?_⟩
      · show (arrM M k n).q ++ [(arrM M k n).c] = _
        rw [h1, hc, List.drop_of_length_le (by omega), List.drop_of_length_le (by omega), show n + 1 - M.q.length = (n - M.q.length) + 1 by omega, posL_app (n - M.q.length) 1, List.nil_append, List.nil_append, show M.c + (M.q.length : Int) + ((n - M.q.length : Nat) : Int) = M.c + n by omega]
        rfl
      · show (arrM M k n).P = _
        rw [h2, List.take_of_length_le (by omega), List.take_of_length_le (by omega)]
      · show k = _
        rw [if_pos (by omega)]
/-! ### each position stands once -/
structure MOk (M : Mod) : Prop where
  u : U M.P
  qn : M.q.Nodup
  qb : ∀ x ∈ M.q, 0 ≤ x ∧ x < M.c
  pb : ∀ p ∈ M.P, (0 ≤ p.1 ∧ p.1 < M.c) ∧ 0 ≤ p.2 ∧ p.2 < M.c
  qp : ∀ x ∈ M.q, ∀ p ∈ M.P, p.1 ≠ x ∧ p.2 ≠ x
  c0 : 0 ≤ M.c
theorem MOk.one {M : Mod} (h : MOk M) (k : Str) : MOk (oneM M k) := by
  obtain ⟨u, qn, qb, pb, qp, c0⟩ := h
  unfold oneM
  split
  · refine ⟨u, ?_, fun x hx => ?_, fun p hp => ?_, fun x hx p hp => ?_, by show 0 ≤ M.c + 1; omega⟩
    · show (M.q ++ [M.c]).Nodup
      refine List.nodup_append.mpr ⟨qn, List.nodup_cons.mpr ⟨(by simp), List.nodup_nil⟩, fun a ha b hb => ?_⟩
      rw [List.mem_singleton.mp hb]
      have := qb a ha
      omega
    · show 0 ≤ x ∧ x < M.c + 1
      rcases List.mem_append.mp hx with z | z
      · have := qb x z
        omega
      · rw [List.mem_singleton.mp z]
        omega
    · have := pb p hp
      show (0 ≤ p.1 ∧ p.1 < M.c + 1) ∧ 0 ≤ p.2 ∧ p.2 < M.c + 1
      omega
    · rcases List.mem_append.mp hx with z | z
      · exact qp x z p hp
      · rw [List.mem_singleton.mp z]
        have := pb p hp
        omega
  · rename_i hn
    cases eq : M.q with
    | nil => exact absurd (.inl eq) hn
    | cons x t =>
      rw [eq] at qn qb qp
      have hx := qb x (List.mem_cons_self ..)
      have xt := (List.nodup_cons.mp qn).1
      have mP : ∀ p ∈ M.P ++ zpL ((x :: t).take 1) M.c, p ∈ M.P ∨ p = (x, M.c) := fun p hp => by
        rcases List.mem_append.mp hp with z | z
        · exact .inl z
        · exact .inr (List.mem_singleton.mp z)
      have qx := qp x (List.mem_cons_self ..)
      refine ⟨⟨fun a ha b hb e => ?_, fun a ha b hb e => ?_, fun a ha b hb e => ?_⟩, (List.nodup_cons.mp qn).2, fun y hy => ?_, fun p hp => ?_, fun y hy p hp => ?_, by show 0 ≤ M.c + 1; omega⟩
      · rcases mP a ha with z | z <;> rcases mP b hb with y | y
        · exact u.fst a z b y e
        · rw [y] at e
          exact absurd e (qx a z).1
        · rw [z] at e
          exact absurd e.symm (qx b y).1
        · rw [z, y]
      · rcases mP a ha with z | z <;> rcases mP b hb with y | y
        · exact u.snd a z b y e
        · rw [y] at e
          have := pb a z
          have e : a.2 = M.c := e
          omega
        · rw [z] at e
          have := pb b y
          have e : M.c = b.2 := e
          omega
        · rw [z, y]
      · rcases mP a ha with z | z <;> rcases mP b hb with y | y
        · exact u.dis a z b y e
        · rw [y] at e
          have := pb a z
          have e : a.1 = M.c := e
          omega
        · rw [z] at e
          exact (qx b y).2 e.symm
        · rw [z, y] at e
          have e : x = M.c := e
          omega
      · have := qb y (List.mem_cons_of_mem _ hy)
        show 0 ≤ y ∧ y < M.c + 1
        omega
      · show (0 ≤ p.1 ∧ p.1 < M.c + 1) ∧ 0 ≤ p.2 ∧ p.2 < M.c + 1
        rcases mP p hp with z | z
        · have := pb p z
          omega
        · rw [z]
          show (0 ≤ x ∧ x < M.c + 1) ∧ 0 ≤ M.c ∧ M.c < M.c + 1
          omega
      · have hy : y ∈ t := hy
        have b := qb y (List.mem_cons_of_mem _ hy)
        rcases mP p hp with z | z
        · exact qp y (List.mem_cons_of_mem _ hy) p z
        · rw [z]
          refine ⟨fun e => ?_, ?_⟩
          · have e : x = y := e
            rw [e] at xt
            exact xt hy
          · show M.c ≠ y
            omega
theorem MOk.arr {M : Mod} (h : MOk M) (k : Str) : ∀ n, MOk (arrM M k n)
  | 0 => h
  | n + 1 => (MOk.arr h k n).one k
theorem mem_lev {q : List Int} {i n : Nat} {x : Int} (h : x ∈ q.take i ++ q.drop (i + n)) : x ∈ q := by
  rcases List.mem_append.mp h with z | z
  · exact List.mem_of_mem_take z
  · exact List.mem_of_mem_drop z
theorem MOk.lev {M : Mod} (h : MOk M) (i n : Nat) : MOk (levM M i n) := by
  obtain ⟨u, qn, qb, pb, qp, c0⟩ := h
  refine ⟨u, ?_, fun x hx => qb x (mem_lev hx), pb, fun x hx => qp x (mem_lev hx), c0⟩
  show (M.q.take i ++ M.q.drop (i + n)).Nodup
  have sub : (M.q.take i ++ M.q.drop (i + n)).Sublist M.q := by
    have h1 : (M.q.drop (i + n)).Sublist (M.q.drop i) := by
      rw [← List.drop_drop]
      exact List.drop_sublist _ _
    have h2 := List.Sublist.append (List.Sublist.refl (M.q.take i)) h1
    rw [List.take_append_drop] at h2
    exact h2
  exact sub.nodup qn
/-! ### the station and its items -/
structure MR (M : Mod) (S : Sta) : Prop where
  st : S.st = if M.q = [] then none else some (M.k, (M.q.length : Int))
  fl : flR S.R = M.q
  gd : Gd S.R M.c
  n : S.n = M.c
  m : S.m = M.P.length
  fb : flB S.B = M.P
  pb : PosB S.B
  tot : M.c = 2 * (M.P.length : Int) + (M.q.length : Int) + M.g
  ok : MOk M
theorem Gd.snocR {b : Int} {p : Rg} : ∀ {R : List Rg}, Gd (R ++ [p]) b → Gd R b ∧ p.1 ≤ p.2
  | [], g => ⟨True.intro, g.1⟩
  | [q], g => ⟨⟨g.1, g.2.1, (fun x h => by cases h), True.intro⟩, g.2.2.2.1⟩
  | q :: r :: t, g => by
    obtain ⟨h1, h2⟩ := Gd.snocR (R := r :: t) g.2.2.2
    exact ⟨⟨g.1, g.2.1, (fun x h => g.2.2.1 x h), h1⟩, h2⟩
theorem fl_ad {b f e : Int} : ∀ {W : List Rg}, Gd W b → b ≤ f → f ≤ e → flR (adR W f e) = flR W ++ posL f (e - f + 1).toNat ∧ Gd (adR W f e) (e + 1) := by
  intro W g h1 h2
  rcases List.eq_nil_or_concat W with e0 | ⟨W0, y, e0⟩
  · subst e0
    refine ⟨?_, ?_⟩
    · show flP (f, e) ++ [] = [] ++ _
      rw [List.append_nil, List.nil_append]
      rfl
    · exact Gd.snoc (R := []) (b := e + 1) (p := (f, e)) True.intro h2 (by show e < e + 1; omega) (fun l h => by cases h)
  · rw [List.concat_eq_append] at e0
    subst e0
    have gl := Gd.last g y List.getLast?_concat
    have gap := Gd.gap g
    have ead : adR (W0 ++ [y]) f e = if y.2 + 1 = f then W0 ++ [(y.1, e)] else (W0 ++ [y]) ++ [(f, e)] := by
      unfold adR
      rw [List.getLast?_concat]
      show (if y.2 + 1 = f then _ else _) = _
      rw [List.dropLast_concat]
    have g0 : Gd W0 b ∧ y.1 ≤ y.2 := Gd.snocR g
    rw [ead]
    split
    · rename_i hy
      refine ⟨?_, Gd.snoc (p := (y.1, e)) (g0.1.mono (by omega)) (by show y.1 ≤ e; omega) (by show e < e + 1; omega) (fun l hl => gap l hl)⟩
      rw [flR_app, flR_app, List.append_assoc]
      congr 1
      show flP (y.1, e) ++ [] = (flP y ++ []) ++ posL f (e - f + 1).toNat
      rw [List.append_nil, List.append_nil]
      unfold flP
      have e1 : (e - y.1 + 1).toNat = (y.2 - y.1 + 1).toNat + (e - f + 1).toNat := by omega
      show posL y.1 (e - y.1 + 1).toNat = _
      rw [e1, posL_app, show y.1 + ((y.2 - y.1 + 1).toNat : Int) = f by omega]
    · rename_i hy
      refine ⟨?_, Gd.snoc (p := (f, e)) (g.mono (by omega)) h2 (by show e < e + 1; omega) (fun l hl => ?_)⟩
      · rw [flR_app]
        congr 1
        show flP (f, e) ++ [] = _
        rw [List.append_nil]
        rfl
      · rw [List.getLast?_concat] at hl
        cases hl
        show y.2 + 1 < f
        omega
theorem step_none {k : Str} {c : Int} (h : 1 ≤ c) : stepR none k c = some (k, c) := rfl
theorem len_posL (a : Int) (n : Nat) : (posL a n).length = n := posL_len n a
/-- arrivals -/
theorem MR.arr {M : Mod} {S : Sta} (h : MR M S) (k : Str) {n : Nat} (n1 : 1 ≤ n) : MR (arrM M k n) (arrS S k n) ∧ leavR S.st k n = ((arrM M k n).P.length : Int) - M.P.length := by
  obtain ⟨st, fl, gd, hn, hm, fb, pb, tot, ok⟩ := h
  have hc := arr_c M k n
  have hg := arr_g M k n
  have ok' := ok.arr k n
  by_cases c : M.q = [] ∨ M.k = k
  · obtain ⟨q1, q2, q3⟩ := arr_same c n
    rw [if_neg (by omega)] at q3
    have lv : leavR S.st k n = 0 := by
      rw [st]
      split
      · rfl
      · rename_i z
        have : M.k = k := by
          rcases c with c | c
          · exact absurd c z
          · exact c
        exact if_pos this
    have hw : wfR S.R 0 = S.R := wf_zero gd
    have er : rarR S.R S.n n 0 = adR S.R M.c (M.c + n - 1) := by
      unfold rarR
      rw [if_pos (by omega), hw, hn, Int.add_zero]
    obtain ⟨a1, a2⟩ := fl_ad (e := M.c + n - 1) gd (Int.le_refl _) (by omega)
    have fb0 : flB (brR S.R S.n 0) = [] := by
      rw [fl_br gd (Int.le_refl _)]
      rfl
    refine ⟨⟨?_, ?_, ?_, ?_, ?_, ?_, ?_, ?_, ok'⟩, by rw [lv, q2]; omega⟩
    · show stepR S.st k n = _
      have ne : ¬ (arrM M k n).q = [] := fun z => by
        have := congrArg List.length z
        rw [q1, List.length_append, len_posL] at this
        have : M.q.length + n = 0 := this
        omega
      rw [if_neg ne, q3, q1, List.length_append, len_posL, st]
      split
      · rename_i z
        rw [z]
        show stepR none k n = some (k, ((0 + n : Nat) : Int))
        rw [Nat.zero_add]
        exact step_none (by omega)
      · rename_i z
        have e : M.k = k := by
          rcases c with c | c
          · exact absurd c z
          · exact c
        rw [step_same (r := (M.k, (M.q.length : Int))) e]
        rfl
    · show flR (rarR S.R S.n n (leavR S.st k n)) = _
      rw [lv, er, a1, fl, q1, show (M.c + (n : Int) - 1 - M.c + 1).toNat = n by omega]
    · show Gd (rarR S.R S.n n (leavR S.st k n)) _
      rw [lv, er, hc]
      exact a2.mono (by omega)
    · show S.n + n = _
      rw [hn, hc]
    · show S.m + leavR S.st k n = _
      rw [lv, hm, q2, Int.add_zero]
    · show flB (S.B ++ brR S.R S.n (leavR S.st k n)) = _
      rw [lv, flB_app, fb, fb0, q2, List.append_nil]
    · intro x hx
      rcases List.mem_append.mp hx with z | z
      · exact pb x z
      · exact pos_brR _ _ _ x z
    · rw [hc, hg, q1, q2, List.length_append, len_posL]
      omega
  · obtain ⟨q1, q2, q3⟩ := arr_other c n
    have qne : ¬ M.q = [] := fun z => c (.inl z)
    have kne : M.k ≠ k := fun z => c (.inr z)
    have l1 : 1 ≤ M.q.length := by
      cases e : M.q with
      | nil => exact absurd e qne
      | cons x t =>
        show 1 ≤ t.length + 1
        omega
    rw [if_neg qne] at st
    obtain ⟨l, el⟩ : ∃ l : Nat, l = min M.q.length n := ⟨_, rfl⟩
    have lv : leavR S.st k n = l := by
      rw [st]
      show (if M.k = k then (0 : Int) else if (n : Int) < M.q.length then n else M.q.length) = l
      rw [if_neg kne]
      split <;> omega
    have pl : (arrM M k n).P.length = M.P.length + l := by
      rw [q2, List.length_append, zpL_len, List.length_take]
      omega
    have wfl : flR (wfR S.R l) = M.q.drop l := by
      rw [wf_flat gd (by omega), fl, Int.toNat_natCast]
    have wgd : Gd (wfR S.R l) M.c := wf_good gd (by omega)
    have fbl : flB (brR S.R S.n l) = zpL (M.q.take n) M.c := by
      rw [fl_br gd (by omega), fl, hn, Int.toNat_natCast]
      congr 1
      by_cases c2 : n ≤ M.q.length
      · rw [show l = n by omega]
      · rw [List.take_of_length_le (by omega), List.take_of_length_le (by omega)]
    refine ⟨⟨?_, ?_, ?_, ?_, ?_, ?_, ?_, ?_, ok'⟩, by rw [lv, pl]; omega⟩
    · show stepR S.st k n = _
      rw [st, step_other (r := (M.k, (M.q.length : Int))) kne, q1, q3]
      show (if 0 < (M.q.length : Int) - n then some (M.k, (M.q.length : Int) - n) else if (M.q.length : Int) - n = 0 then none else some (k, -((M.q.length : Int) - n))) = _
      by_cases c2 : n < M.q.length
      · rw [if_pos (show 0 < (M.q.length : Int) - n by omega), show n - M.q.length = 0 by omega]
        have ne : ¬ M.q.drop n ++ posL (M.c + M.q.length) 0 = [] := fun z => by
          have := congrArg List.length z
          rw [List.length_append, List.length_drop] at this
          have : M.q.length - n + 0 = 0 := this
          omega
        rw [if_neg ne, if_neg (show ¬ M.q.length < n by omega), List.length_append, List.length_drop]
        congr 2
        show (M.q.length : Int) - n = ((M.q.length - n + 0 : Nat) : Int)
        omega
      · rw [if_neg (show ¬ 0 < (M.q.length : Int) - n by omega)]
        by_cases c3 : n = M.q.length
        · rw [if_pos (show (M.q.length : Int) - n = 0 by omega), show n - M.q.length = 0 by omega, List.drop_of_length_le (by omega), if_pos (show ([] : List Int) ++ posL (M.c + M.q.length) 0 = [] from rfl)]
        · rw [if_neg (show ¬ (M.q.length : Int) - n = 0 by omega), List.drop_of_length_le (by omega), List.nil_append]
          have ne : ¬ posL (M.c + M.q.length) (n - M.q.length) = [] := fun z => by
            have := congrArg List.length z
            rw [len_posL] at this
            have : n - M.q.length = 0 := this
            omega
          rw [if_neg ne, if_pos (show M.q.length < n by omega), len_posL]
          congr 2
          omega
    · show flR (rarR S.R S.n n (leavR S.st k n)) = _
      rw [lv, q1]
      unfold rarR
      by_cases c2 : n ≤ M.q.length
      · rw [if_neg (by omega), wfl, show l = n by omega, show n - M.q.length = 0 by omega]
        exact (List.append_nil _).symm
      · rw [if_pos (by omega), hn]
        have a1 := (fl_ad (f := M.c + l) (e := M.c + n - 1) wgd (by omega) (by omega)).1
        rw [a1, wfl, List.drop_of_length_le (by omega), List.drop_of_length_le (by omega), List.nil_append, List.nil_append, show (M.c + (n : Int) - 1 - (M.c + l) + 1).toNat = n - M.q.length by omega, show M.c + (l : Int) = M.c + M.q.length by omega]
    · show Gd (rarR S.R S.n n (leavR S.st k n)) _
      rw [lv, hc]
      unfold rarR
      by_cases c2 : n ≤ M.q.length
      · rw [if_neg (by omega)]
        exact wgd.mono (by omega)
      · rw [if_pos (by omega), hn]
        exact (fl_ad (f := M.c + l) (e := M.c + n - 1) wgd (by omega) (by omega)).2.mono (by omega)
    · show S.n + n = _
      rw [hn, hc]
    · show S.m + leavR S.st k n = _
      rw [lv, hm, pl]
      omega
    · show flB (S.B ++ brR S.R S.n (leavR S.st k n)) = _
      rw [lv, flB_app, fb, fbl, q2]
    · intro x hx
      rcases List.mem_append.mp hx with z | z
      · exact pb x z
      · exact pos_brR _ _ _ x z
    · rw [hc, hg, pl, q1, List.length_append, len_posL, List.length_drop]
      omega
/-! ### items that give up -/
theorem of_flat {b : Int} : ∀ {R : List Rg} {n : Int}, Gd R b → 0 ≤ n → flR (ofR R n) = (flR R).take n.toNat
  | [], n, _, _ => by
    show [] = ([] : List Int).take _
    rw [List.take_nil]
  | p :: t, n, g, h => by
    obtain ⟨r1, r2, r3, r4⟩ := rm_le g.1 h
    have lp : (flP p).length = (p.2 - p.1 + 1).toNat := posL_len _ _
    show flR (ofP p n ++ ofR t (n - rmR p n)) = _
    rw [flR_app, flR_cons, take_app, lp, of_flat g.2.2.2 (by omega)]
    have e1 : flR (ofP p n) = (flP p).take n.toNat := by
      unfold ofP
      by_cases c : 0 < rmR p n
      · rw [if_pos c]
        show flP (p.1, p.1 + rmR p n - 1) ++ [] = _
        rw [List.append_nil]
        unfold flP
        show posL p.1 (p.1 + rmR p n - 1 - p.1 + 1).toNat = _
        rw [show (p.1 + rmR p n - 1 - p.1 + 1).toNat = (rmR p n).toNat by omega]
        by_cases c2 : rmR p n < p.2 - p.1 + 1
        · rw [posL_take _ _ _ (by have := r4 c2; omega), r4 c2]
        · rw [List.take_of_length_le (by rw [posL_len]; omega), show (rmR p n).toNat = (p.2 - p.1 + 1).toNat by omega]
      · rw [if_neg c]
        have n0 : n = 0 := by
          by_cases c2 : rmR p n < p.2 - p.1 + 1
          · have := r4 c2
            omega
          · have := g.1
            omega
        rw [n0]
        rfl
    rw [e1]
    congr 1
    by_cases c2 : rmR p n < p.2 - p.1 + 1
    · have := r4 c2
      rw [show (n - rmR p n).toNat = 0 by omega, show n.toNat - (p.2 - p.1 + 1).toNat = 0 by omega]
    · rw [show (n - rmR p n).toNat = n.toNat - (p.2 - p.1 + 1).toNat by omega]
/-- the first ranges, and what follows them at a distance -/
theorem of_good {b : Int} : ∀ {R : List Rg} {n : Int}, Gd R b → 0 ≤ n → Gd (ofR R n) b ∧ ∀ x, (ofR R n).head? = some x → ∀ y, R.head? = some y → x.1 = y.1
  | [], n, _, _ => ⟨True.intro, fun x h => by cases h⟩
  | p :: t, n, g, h => by
    obtain ⟨r1, r2, r3, r4⟩ := rm_le g.1 h
    obtain ⟨ih1, ih2⟩ := of_good (n := n - rmR p n) g.2.2.2 (by omega)
    show Gd (ofP p n ++ ofR t (n - rmR p n)) b ∧ ∀ x, (ofP p n ++ ofR t (n - rmR p n)).head? = some x → ∀ y, (p :: t).head? = some y → x.1 = y.1
    unfold ofP
    by_cases c : 0 < rmR p n
    · rw [if_pos c]
      have hb := g.2.1
      refine ⟨⟨by show p.1 ≤ p.1 + rmR p n - 1; omega, by show p.1 + rmR p n - 1 < b; omega, fun x hx => ?_, ih1⟩, fun x hx y hy => ?_⟩
      · have hx : (ofR t (n - rmR p n)).head? = some x := hx
        show p.1 + rmR p n - 1 + 1 < x.1
        cases t with
        | nil => cases hx
        | cons y u =>
          have e := ih2 x hx y rfl
          have g2 := g.2.2.1 y rfl
          rw [e]
          omega
      · cases hx
        cases hy
        rfl
    · rw [if_neg c]
      have n0 : n = 0 := by
        by_cases c2 : rmR p n < p.2 - p.1 + 1
        · have := r4 c2
          omega
        · have := g.1
          omega
      have e0 : ofR t (n - rmR p n) = [] := by
        have e : n - rmR p n = 0 := by omega
        rw [e]
        have z : ∀ l : List Rg, (∀ q ∈ l, q.1 ≤ q.2) → ofR l 0 = [] := by
          intro l
          induction l with
          | nil => intro _; rfl
          | cons a u ih =>
            intro k
            have ka := k a (List.mem_cons_self ..)
            have ra : rmR a 0 = 0 := by
              unfold rmR
              rw [if_neg (by omega)]
            show ofP a 0 ++ ofR u (0 - rmR a 0) = []
            unfold ofP
            rw [ra, if_neg (by omega), Int.sub_zero, ih fun q hq => k q (List.mem_cons_of_mem _ hq)]
            rfl
        have all : ∀ l : List Rg, Gd l b → ∀ q ∈ l, q.1 ≤ q.2 := by
          intro l
          induction l with
          | nil => intro _ q hq; cases hq
          | cons a u ih =>
            intro gl q hq
            rcases List.mem_cons.mp hq with y | y
            · rw [y]
              exact gl.1
            · exact ih gl.2.2.2 q y
        exact z t (all t g.2.2.2)
      rw [e0]
      exact ⟨True.intro, fun x hx => by cases hx⟩
/-- two good lists of ranges, one behind the other -/
theorem gd_cat {b : Int} : ∀ {A B : List Rg}, Gd A b → Gd B b → (∀ x y, A.getLast? = some x → B.head? = some y → x.2 + 1 < y.1) → Gd (A ++ B) b
  | [], _, _, h, _ => h
  | [p], B, g, h, k => ⟨g.1, g.2.1, fun x hx => k p x rfl hx, h⟩
  | p :: r :: t, B, g, h, k => ⟨g.1, g.2.1, fun x hx => g.2.2.1 x hx, gd_cat (A := r :: t) g.2.2.2 h fun x y hx hy => k x y (by rw [List.getLast?_cons_cons]; exact hx) hy⟩
theorem fl_last {b : Int} {A : List Rg} (g : Gd A b) {x : Rg} (h : A.getLast? = some x) : (flR A).getLast? = some x.2 := by
  rcases List.eq_nil_or_concat A with e0 | ⟨W0, y, e0⟩
  · rw [e0] at h
    cases h
  · rw [List.concat_eq_append] at e0
    subst e0
    rw [List.getLast?_concat] at h
    have ex : y = x := Option.some.inj h
    rw [← ex]
    have hy := (Gd.snocR g).2
    rw [flR_app]
    show (flR W0 ++ (flP y ++ [])).getLast? = _
    rw [List.append_nil]
    unfold flP
    obtain ⟨j, ej⟩ : ∃ j : Nat, (y.2 - y.1 + 1).toNat = j + 1 := ⟨(y.2 - y.1).toNat, by omega⟩
    rw [ej, posL_app j 1, ← List.append_assoc]
    show (_ ++ [y.1 + (j : Int)]).getLast? = _
    rw [List.getLast?_concat]
    congr 1
    omega
theorem fl_head {b : Int} {A : List Rg} (g : Gd A b) {x : Rg} (h : A.head? = some x) : (flR A).head? = some x.1 := by
  cases A with
  | nil => cases h
  | cons p t =>
    have ex : p = x := Option.some.inj h
    rw [← ex]
    show (flP p ++ flR t).head? = _
    unfold flP
    obtain ⟨j, ej⟩ : ∃ j : Nat, (p.2 - p.1 + 1).toNat = j + 1 := ⟨(p.2 - p.1).toNat, by have := g.1; omega⟩
    rw [ej]
    rfl
/-- the positions of good ranges ascend -/
theorem fl_asc {b : Int} : ∀ {R : List Rg}, Gd R b → (flR R).Pairwise (· < ·)
  | [], _ => List.Pairwise.nil
  | p :: t, g => by
    show (flP p ++ flR t).Pairwise (· < ·)
    refine List.pairwise_append.mpr ⟨?_, fl_asc g.2.2.2, fun x hx y hy => ?_⟩
    · have gen : ∀ (n : Nat) (a : Int), (posL a n).Pairwise (· < ·) := by
        intro n
        induction n with
        | zero => intro a; exact List.Pairwise.nil
        | succ n ih =>
          intro a
          refine List.pairwise_cons.mpr ⟨fun y hy => ?_, ih (a + 1)⟩
          have := posL_ge n (a + 1) y hy
          omega
      exact gen _ _
    · have hx := posL_ge _ _ x hx
      have lo : ∀ {R : List Rg} {lo : Int}, Gd R b → (∀ z, R.head? = some z → lo < z.1) → ∀ y ∈ flR R, lo < y := by
        intro R
        induction R with
        | nil => intro lo _ _ y hy; cases hy
        | cons q u ih =>
          intro lo gq hz y hy
          have hq := hz q rfl
          rcases List.mem_append.mp (show y ∈ flP q ++ flR u from hy) with z | z
          · have := posL_ge _ _ y z
            omega
          · exact ih (lo := lo) gq.2.2.2 (fun x hx => by have := gq.2.2.1 x hx; have := gq.1; omega) y z
      have hp := g.1
      have := lo (lo := p.2 + 1) g.2.2.2 (fun z hz => g.2.2.1 z hz) y hy
      omega
theorem MR.lev {M : Mod} {S : Sta} (h : MR M S) {i n : Nat} (n1 : 1 ≤ n) (l : i + n ≤ M.q.length) : MR (levM M i n) (givS S i n M.k) ∧ numR S.st = M.q.length ∧ S.st = some (M.k, numR S.st) ∧ ∃ x z, M.q[i]? = some x ∧ (wfR S.R i).head? = some z ∧ z.1 = x := by
  obtain ⟨st, fl, gd, hn, hm, fb, pb, tot, ok⟩ := h
  have qne : ¬ M.q = [] := fun z => by
    rw [z] at l
    have : i + n ≤ 0 := l
    omega
  rw [if_neg qne] at st
  have nu : numR S.st = M.q.length := by
    rw [st]
    rfl
  have w1 : flR (wfR S.R i) = M.q.drop i := by
    rw [wf_flat gd (by omega), fl, Int.toNat_natCast]
  have g1 : Gd (wfR S.R i) M.c := wf_good gd (by omega)
  have w2 : flR (wfR (wfR S.R i) n) = M.q.drop (i + n) := by
    rw [wf_flat g1 (by omega), w1, List.drop_drop, Int.toNat_natCast]
  have g2 : Gd (wfR (wfR S.R i) n) M.c := wf_good g1 (by omega)
  have o1 : flR (ofR S.R i) = M.q.take i := by
    rw [of_flat gd (by omega), fl, Int.toNat_natCast]
  have g0 := (of_good (n := (i : Int)) gd (by omega)).1
  obtain ⟨x, ex⟩ : ∃ x, M.q[i]? = some x := ⟨_, List.getElem?_eq_getElem (by omega)⟩
  have asc := fl_asc gd
  rw [fl] at asc
  refine ⟨⟨?_, ?_, ?_, hn, hm, fb, pb, ?_, ok.lev i n⟩, nu, by rw [nu]; exact st, x, ?_⟩
  · show withR M.k (numR S.st - n) = if M.q.take i ++ M.q.drop (i + n) = [] then none else some (M.k, ((M.q.take i ++ M.q.drop (i + n)).length : Int))
    have ll : (M.q.take i ++ M.q.drop (i + n)).length = M.q.length - n := by
      rw [List.length_append, List.length_take, List.length_drop]
      omega
    rw [nu, ll]
    unfold withR
    by_cases c : M.q.length = n
    · rw [if_pos (by omega), if_pos (List.length_eq_zero_iff.mp (by omega))]
    · rw [if_neg (by omega), if_neg (fun z => by have := congrArg List.length z; rw [ll] at this; have : M.q.length - n = 0 := this; omega)]
      congr 2
      omega
  · show flR (ofR S.R i ++ wfR (wfR S.R i) n) = M.q.take i ++ M.q.drop (i + n)
    rw [flR_app, o1, w2]
  · show Gd (ofR S.R i ++ wfR (wfR S.R i) n) M.c
    refine gd_cat g0 g2 fun a b ha hb => ?_
    have la := fl_last g0 ha
    have hb2 := fl_head g2 hb
    rw [o1] at la
    rw [w2] at hb2
    -- at least one position lies between them
    have i0 : 0 < i := by
      by_cases c : i = 0
      · subst c
        cases la
      · omega
    have ea : M.q[i - 1]? = some a.2 := by
      rw [List.getLast?_eq_getElem?, List.length_take, List.getElem?_take] at la
      rw [show min i M.q.length - 1 = i - 1 by omega, if_pos (by omega)] at la
      exact la
    have eb : M.q[i + n]? = some b.1 := by
      rw [List.head?_drop] at hb2
      exact hb2
    obtain ⟨la1, la2⟩ := List.getElem?_eq_some_iff.mp ea
    obtain ⟨lb1, lb2⟩ := List.getElem?_eq_some_iff.mp eb
    obtain ⟨lx1, lx2⟩ := List.getElem?_eq_some_iff.mp ex
    have h1 := List.pairwise_iff_getElem.mp asc (i - 1) i la1 lx1 (by omega)
    have h2 := List.pairwise_iff_getElem.mp asc i (i + n) lx1 lb1 (by omega)
    rw [la2, lx2] at h1
    rw [lx2, lb2] at h2
    omega
  · show M.c = 2 * (M.P.length : Int) + ((M.q.take i ++ M.q.drop (i + n)).length : Int) + (M.g + n)
    rw [List.length_append, List.length_take, List.length_drop]
    omega
  · cases ez : wfR S.R i with
    | nil =>
      rw [ez] at w1
      have : M.q.drop i = [] := w1.symm
      have := congrArg List.length this
      rw [List.length_drop] at this
      have : M.q.length - i = 0 := this
      omega
    | cons z t =>
      refine ⟨z, ex, rfl, ?_⟩
      have hz := fl_head g1 (x := z) (by rw [ez]; rfl)
      rw [w1, List.head?_drop, ex] at hz
      exact (Option.some.inj hz).symm
end UP

set_option Elab.async false
set_option linter.all false
set_option maxRecDepth 100000
set_option maxHeartbeats 4000000
set_option pp.maxSteps 300
namespace UP
open PySem PySem.Spec PyProof.Rows L2
/-! ### all counts multiplied -/
def scS (t : Int) (S : Sta) : Sta := ⟨scO t S.st, scP t S.R, S.n * t, S.m * t, scB t S.B⟩
theorem scP_app (t : Int) (A B : List Rg) : scP t (A ++ B) = scP t A ++ scP t B := List.map_append ..
theorem scB_app (t : Int) (A B : List Blk) : scB t (A ++ B) = scB t A ++ scB t B := List.map_append ..
theorem ad_sc {t : Int} (ht : 0 < t) (R : List Rg) (f l : Int) : adR (scP t R) (f * t) (l * t + t - 1) = scP t (adR R f l) := by
  unfold adR
  have eg : (scP t R).getLast? = R.getLast?.map fun p => (p.1 * t, p.2 * t + t - 1) := by
    unfold scP
    rw [List.getLast?_map]
  rw [eg]
  cases R.getLast? with
  | none =>
    show scP t R ++ [(f * t, l * t + t - 1)] = scP t (R ++ [(f, l)])
    rw [scP_app]
    rfl
  | some z =>
    show (if z.2 * t + t - 1 + 1 = f * t then (scP t R).dropLast ++ [(z.1 * t, l * t + t - 1)] else scP t R ++ [(f * t, l * t + t - 1)]) = scP t (if z.2 + 1 = f then R.dropLast ++ [(z.1, l)] else R ++ [(f, l)])
    have e : (z.2 + 1) * t = z.2 * t + t := by rw [Int.add_mul, Int.one_mul]
    have iff : z.2 * t + t - 1 + 1 = f * t ↔ z.2 + 1 = f := by
      rw [show z.2 * t + t - 1 + 1 = (z.2 + 1) * t by omega]
      exact eq_sc ht
    by_cases g : z.2 + 1 = f
    · rw [if_pos g, if_pos (iff.mpr g), scP_app]
      congr 1
      unfold scP
      rw [List.map_dropLast]
    · rw [if_neg g, if_neg (fun y => g (iff.mp y)), scP_app]
      rfl
theorem rar_sc {t : Int} (ht : 0 < t) (R : List Rg) (b c n : Int) : rarR (scP t R) (b * t) (c * t) (n * t) = scP t (rarR R b c n) := by
  unfold rarR
  rw [wfR_sc ht]
  by_cases g : n < c
  · rw [if_pos g, if_pos ((lt_sc ht).mpr g), ← ad_sc ht, ← Int.add_mul]
    congr 1
    rw [Int.sub_mul, Int.add_mul, Int.one_mul]
    omega
  · rw [if_neg g, if_neg (fun y => g ((lt_sc ht).mp y))]
theorem arr_sc {t : Int} (ht : 0 < t) (S : Sta) (k : Str) (c : Int) : arrS (scS t S) k (c * t) = scS t (arrS S k c) := by
  unfold arrS scS
  dsimp only
  rw [leav_sc ht, step_sc ht, rar_sc ht, brR_sc ht, scB_app, Int.add_mul, Int.add_mul]
theorem ofP_sc {p : Rg} {n t : Int} (ht : 0 < t) : ofP (p.1 * t, p.2 * t + t - 1) (n * t) = scP t (ofP p n) := by
  unfold ofP
  rw [rm_sc ht]
  by_cases g : 0 < rmR p n
  · rw [if_pos g, if_pos ((pos_sc ht).mpr g)]
    show [(p.1 * t, p.1 * t + rmR p n * t - 1)] = [(p.1 * t, (p.1 + rmR p n - 1) * t + t - 1)]
    rw [Int.sub_mul, Int.add_mul, Int.one_mul]
    congr 2
    omega
  · rw [if_neg g, if_neg (fun y => g ((pos_sc ht).mp y))]
    rfl
theorem ofR_sc {t : Int} (ht : 0 < t) : ∀ (R : List Rg) (n : Int), ofR (scP t R) (n * t) = scP t (ofR R n)
  | [], _ => rfl
  | p :: u, n => by
    show ofP (p.1 * t, p.2 * t + t - 1) (n * t) ++ ofR (scP t u) (n * t - rmR (p.1 * t, p.2 * t + t - 1) (n * t)) = scP t (ofP p n ++ ofR u (n - rmR p n))
    rw [ofP_sc ht, rm_sc ht, ← Int.sub_mul, ofR_sc ht u, scP_app]
theorem num_sc (t : Int) (st : Option Run) : numR (scO t st) = numR st * t := by
  cases st with
  | none =>
    show (0 : Int) = 0 * t
    rw [Int.zero_mul]
  | some r => rfl
theorem with_sc {t : Int} (ht : 0 < t) (k : Str) (n : Int) : withR k (n * t) = scO t (withR k n) := by
  unfold withR
  by_cases g : n = 0
  · rw [if_pos g, if_pos (by rw [g, Int.zero_mul])]
    rfl
  · rw [if_neg g, if_neg (fun y => g ((eq_sc (b := 0) ht).mp (by rw [Int.zero_mul]; exact y)))]
    rfl
theorem giv_sc {t : Int} (ht : 0 < t) (S : Sta) (i c : Int) (k : Str) : givS (scS t S) (i * t) (c * t) k = scS t (givS S i c k) := by
  unfold givS scS
  dsimp only
  rw [num_sc, ← Int.sub_mul, with_sc ht, ofR_sc ht, wfR_sc ht, wfR_sc ht, scP_app]
theorem pg_sc {t : Int} (ht : 0 < t) {a r : Int} (r0 : 0 ≤ r) (r1 : r < t) : ∀ (B : List Blk), pgR (scB t B) (a * t + r) = (pgR B a).map fun y => y * t + r
  | [] => rfl
  | x :: u => by
    have le : ∀ z : Int, z * t ≤ a * t + r ↔ z ≤ a := fun z => by
      have e : (a + 1) * t = a * t + t := by rw [Int.add_mul, Int.one_mul]
      have h1 := lt_sc (a := z) (b := a + 1) ht
      have h2 := le_sc (a := z) (b := a) ht
      rw [e] at h1
      constructor
      · intro h
        have := h1.mp (by omega)
        omega
      · intro h
        have := h2.mpr h
        omega
    have lt : ∀ z : Int, a * t + r < z * t ↔ a < z := fun z => by
      have := le z
      constructor
      · intro h
        by_cases c : a < z
        · exact c
        · have := this.mpr (by omega)
          omega
      · intro h
        by_cases c : a * t + r < z * t
        · exact c
        · have := this.mp (by omega)
          omega
    show (if x.1 * t ≤ a * t + r ∧ a * t + r < x.1 * t + x.2.2 * t then some (x.2.1 * t + (a * t + r) - x.1 * t) else if x.2.1 * t ≤ a * t + r ∧ a * t + r < x.2.1 * t + x.2.2 * t then some (x.1 * t + (a * t + r) - x.2.1 * t) else pgR (scB t u) (a * t + r)) = (if x.1 ≤ a ∧ a < x.1 + x.2.2 then some (x.2.1 + a - x.1) else if x.2.1 ≤ a ∧ a < x.2.1 + x.2.2 then some (x.1 + a - x.2.1) else pgR u a).map _
    rw [← Int.add_mul, ← Int.add_mul]
    by_cases c1 : x.1 ≤ a ∧ a < x.1 + x.2.2
    · rw [if_pos c1, if_pos ⟨(le _).mpr c1.1, (lt _).mpr c1.2⟩]
      show some _ = some ((x.2.1 + a - x.1) * t + r)
      rw [Int.sub_mul, Int.add_mul]
      congr 1
      omega
    · rw [if_neg c1, if_neg (fun y => c1 ⟨(le _).mp y.1, (lt _).mp y.2⟩)]
      by_cases c2 : x.2.1 ≤ a ∧ a < x.2.1 + x.2.2
      · rw [if_pos c2, if_pos ⟨(le _).mpr c2.1, (lt _).mpr c2.2⟩]
        show some _ = some ((x.1 + a - x.2.1) * t + r)
        rw [Int.sub_mul, Int.add_mul]
        congr 1
        omega
      · rw [if_neg c2, if_neg (fun y => c2 ⟨(le _).mp y.1, (lt _).mp y.2⟩)]
        exact pg_sc ht r0 r1 u
/-! ### the mates as a dict -/
def mateK (P : List Pr) : List (Key × V) := P.flatMap fun p => [(Sum.inl p.2, V.int p.1), (Sum.inl p.1, V.int p.2)]
theorem mate_len : ∀ P : List Pr, (mateK P).length = 2 * P.length
  | [] => rfl
  | p :: t => by
    show (mateK t).length + 1 + 1 = 2 * (t.length + 1)
    rw [mate_len t]
    omega
theorem mate_app (P Q : List Pr) : mateK (P ++ Q) = mateK P ++ mateK Q := List.flatMap_append ..
theorem mate_none {a : Int} : ∀ {P : List Pr}, (∀ p ∈ P, p.1 ≠ a ∧ p.2 ≠ a) → valV (mateK P) (Sum.inl a) = none
  | [], _ => rfl
  | p :: t, h => by
    obtain ⟨h1, h2⟩ := h p (List.mem_cons_self ..)
    show valV ((Sum.inl p.2, V.int p.1) :: (Sum.inl p.1, V.int p.2) :: mateK t) (Sum.inl a) = none
    rw [valV_neg (fun e => h2 (Sum.inl.inj e)), valV_neg (fun e => h1 (Sum.inl.inj e))]
    exact mate_none fun q hq => h q (List.mem_cons_of_mem _ hq)
theorem mate_val {a b : Int} : ∀ {P : List Pr}, U P → ((a, b) ∈ P ∨ (b, a) ∈ P) → valV (mateK P) (Sum.inl a) = some (.int b)
  | [], _, h => by rcases h with h | h <;> cases h
  | p :: t, u, h => by
    have ut : U t := ⟨fun x hx y hy => u.fst x (List.mem_cons_of_mem _ hx) y (List.mem_cons_of_mem _ hy), fun x hx y hy => u.snd x (List.mem_cons_of_mem _ hx) y (List.mem_cons_of_mem _ hy), fun x hx y hy => u.dis x (List.mem_cons_of_mem _ hx) y (List.mem_cons_of_mem _ hy)⟩
    have m0 : p ∈ p :: t := List.mem_cons_self ..
    show valV ((Sum.inl p.2, V.int p.1) :: (Sum.inl p.1, V.int p.2) :: mateK t) (Sum.inl a) = _
    by_cases c1 : p.2 = a
    · rw [valV_pos (by show Sum.inl p.2 = Sum.inl a; rw [c1])]
      show some (V.int p.1) = some (V.int b)
      rcases h with h | h
      · exact absurd c1.symm (u.dis _ h _ m0)
      · have e := u.snd _ h _ m0 c1.symm
        rw [← e]
    · rw [valV_neg (fun e => c1 (Sum.inl.inj e))]
      by_cases c2 : p.1 = a
      · rw [valV_pos (by show Sum.inl p.1 = Sum.inl a; rw [c2])]
        show some (V.int p.2) = some (V.int b)
        rcases h with h | h
        · have e := u.fst _ h _ m0 c2.symm
          rw [← e]
        · exact absurd c2 (u.dis _ m0 _ h)
      · rw [valV_neg (fun e => c2 (Sum.inl.inj e))]
        refine mate_val ut ?_
        rcases h with h | h
        · rcases List.mem_cons.mp h with e | e
          · exact absurd (by rw [← e]) c2
          · exact .inl e
        · rcases List.mem_cons.mp h with e | e
          · exact absurd (by rw [← e]) c1
          · exact .inr e
/-- the partner by the blocks is the mate of the dict -/
theorem MR.mate {M : Mod} {S : Sta} (h : MR M S) (a : Int) : valV (mateK M.P) (Sum.inl a) = (pgR S.B a).map V.int := by
  have u := h.ok.u
  by_cases c : ∃ b, (a, b) ∈ M.P ∨ (b, a) ∈ M.P
  · obtain ⟨b, hb⟩ := c
    rw [mate_val u hb]
    have u' := u
    rw [← h.fb] at u'
    rcases hb with z | z
    · rw [← h.fb] at z
      rw [pg_first S.B (a, b) h.pb u' z]
      rfl
    · rw [← h.fb] at z
      rw [pg_second S.B (b, a) h.pb u' z]
      rfl
  · have no : ∀ p ∈ M.P, p.1 ≠ a ∧ p.2 ≠ a := fun p hp => ⟨fun e => c ⟨p.2, .inl (by rw [← e]; exact hp)⟩, fun e => c ⟨p.1, .inr (by rw [← e]; exact hp)⟩⟩
    rw [mate_none no, pg_none S.B a h.pb (by rw [h.fb]; exact no)]
    rfl
/-- ranges of the waiting items -/
theorem MR.rg {M : Mod} {S : Sta} (h : MR M S) : S.R = rgR 1 M.q := by
  have := rg_flat S.R [] h.gd (fun l p hl => by cases hl)
  rw [h.fl] at this
  exact this.symm
end UP

set_option Elab.async false
set_option linter.all false
set_option maxRecDepth 100000
set_option maxHeartbeats 4000000
set_option pp.maxSteps 300
namespace UP
open PySem PySem.Spec PyProof.Rows L2
theorem nf_current_state : NotF "current_state" := ⟨by decide +kernel, by decide +kernel, by decide +kernel, by decide +kernel, by decide +kernel, by decide +kernel⟩
theorem nf_waiting_positions : NotF "waiting_positions" := ⟨by decide +kernel, by decide +kernel, by decide +kernel, by decide +kernel, by decide +kernel, by decide +kernel⟩
theorem nf_arrival_count : NotF "arrival_count" := ⟨by decide +kernel, by decide +kernel, by decide +kernel, by decide +kernel, by decide +kernel, by decide +kernel⟩
theorem nf_pair_total : NotF "pair_total" := ⟨by decide +kernel, by decide +kernel, by decide +kernel, by decide +kernel, by decide +kernel, by decide +kernel⟩
theorem nf_give_up_count : NotF "give_up_count" := ⟨by decide +kernel, by decide +kernel, by decide +kernel, by decide +kernel, by decide +kernel, by decide +kernel⟩
theorem nf_partner_at : NotF "partner_at" := ⟨by decide +kernel, by decide +kernel, by decide +kernel, by decide +kernel, by decide +kernel, by decide +kernel⟩
theorem nf_arrive : NotF "arrive" := ⟨by decide +kernel, by decide +kernel, by decide +kernel, by decide +kernel, by decide +kernel, by decide +kernel⟩
theorem nf_give_up : NotF "give_up" := ⟨by decide +kernel, by decide +kernel, by decide +kernel, by decide +kernel, by decide +kernel, by decide +kernel⟩
theorem Stn.at {C : Addr} {H : Hp} {p ap ar ab : Addr} {S : Sta} {ops : List Op} (z : Stn C H p ap ar ab S ops) {m : Str} (nf : NotF m) : ∃ dx fs, H p = some (.ins C dx fs) ∧ fs.lookup m = none := by
  obtain ⟨⟨dx, v, h, _⟩, _⟩ := z
  exact ⟨dx, _, h, fl6_no nf ..⟩
end UP

set_option Elab.async false
set_option linter.all false
set_option maxRecDepth 100000
set_option maxHeartbeats 4000000
set_option pp.maxSteps 300
namespace UP
open PySem PySem.Spec PyProof.Rows L2
/-! ### a method called with a keyword; len by an own __len__ -/
def tMethN (C : Addr) (m : Str) (n j : Nat) (sp : Sp) (gV : List V → List V → List V) (E : XK) (ta : TE) (t tk : TA) : TE := fun σ H Q => ta σ H fun x H1 => ∃ a dx fs, x = .ref a ∧ H1 a = some (.ins C dx fs) ∧ fs.lookup m = none ∧
  t σ H1 fun vs H2 => tk σ H2 fun zs H3 => vs.length + 1 = n ∧ zs.length = j ∧ sp (gV (x :: vs) zs) H3 Q E
section
variable {X : Cx} {C : Addr} {k n : Nat} {m kw : Str} {ps : List Str} {sp : Sp} {d : V} {o e : Expr} {es : List Expr} {kws : List Keyword} {ta : TE} {t tk : TA} {p pos apos : Pos}
theorem pe_methNO {pl : Sem Bool} (he : PE X o ta) (c : Cls X.K C) (G : HasMD X.prog X.w X.K X.mg X.base C k m ps n kw d sp) (hr : Room k X.A) (ha : PA X (e :: es) t) (hkw : PK X kws tk)
    (hall : (backToKw pos (keywordEach kws X.env)).all (·.1.isSome) = true := by rfl) (hks : (backToKw pos (keywordEach kws X.env)).filterMap (·.1) = [kw] := by rfl)
    (hst : starEach (e :: es) X.env = (false, eval e X.env) :: starEach es X.env := by rfl)
    (hpl : ((backTo pos (starEach (e :: es) X.env)).any (·.1) || (backToKw pos (keywordEach kws X.env)).any (·.1.isNone)) = false := by rfl)
    (ht : eval (.Call (.Attribute o m apos) (e :: es) kws pos) X.env = (do
      let ov ← eval o X.env
      standAt apos.atName
      let (f, first) ← holding [ov] (getMethod ov m pl)
      callWith pos f first (backTo pos (starEach (e :: es) X.env)) (backToKw pos (keywordEach kws X.env))) := by rfl) :
    PE X (.Call (.Attribute o m apos) (e :: es) kws pos) (tMethN C m n 1 sp (fun vs zs => vs ++ zs) E0 ta t tk) := by
  obtain ⟨f, fd, hm, _, _, hb, F⟩ := G
  refine ⟨fun pins s σ H Q I h => ?_⟩
  refine PySem.W.methodCall_KW (pl := pl) (thn (he.run pins s σ H _ I h) fun u s1 ⟨x, H1, I1, rx, a, dx, fs, ex, ea, l, q⟩ => ?_) ht
  subst ex
  obtain rfl : u = Value.ref a := rx
  refine getmeth_ok I1 ea c hm l ?_
  refine PySem.W.callWith_KW (first := [.ref a]) (h₀ := X.base) I.ok.mod.kin hm.kp hall (thn (ha.run pos pins s1 σ H1 _ I1 q) fun us s2 ⟨vs, H2, I2, r, q2⟩ => ?_) hpl hst
  refine thn (hkw.run pos pins s2 σ H2 _ I2 q2) fun ws s3 ⟨zs, H3, I3, rz, l1, l2, q3⟩ => ⟨I3.kIn, ?_⟩
  rw [hks]
  exact run_fnN (us := .ref a :: us) (vs := .ref a :: vs) (ks := [kw]) F hr hb pass0 I3 (.cons rfl r) rz l1 l2 q3
theorem call_lenO (G : HasM X.prog X.w X.K X.mg X.base C k "__len__" ["self"] sp) (hr : Room (k + 1) X.A) :
    CallR X (.builtin "len") (fun xs H Q => ∃ (a dx : Addr) (fs : List (Str × V)), xs = [.ref a] ∧ H a = some (.ins C dx fs) ∧ sp [.ref a] H (fun v H' => ∃ j : Nat, v = .int j ∧ (j : Int) < 2 ^ 62 ∧ Q (.int j) H') E0) := by
  intro pins s σ H xs us Q I r h
  obtain ⟨f, fd, hm, hb, F⟩ := G
  obtain ⟨a, dx, fs, rfl, ha, q⟩ := h
  obtain ⟨u, rfl, ru⟩ := vals1 r
  cases ru
  obtain ⟨mA, J, _⟩ := ins_get I.hok ha
  obtain ⟨od, J, _⟩ := J.look
  obtain ⟨m, hF⟩ := I.fr
  refine PySem.W.len_K hF I.ok.mod.kin J hm.at_ hm.fn ?_
  have e0 : Env0 X.prog X.w X.K X.mg X.base X.A.in1 X.stack s H := by
    have e := I.env0
    exact ⟨e.frames, e.mod, e.bs, e.bsz, e.funs, e.frf, e.hok, e.bare⟩
  have hl := F.len _ _ _ _ q
  refine wpAny_call (codeAny_mono (F.run X.A.in1 X.stack s H ⟨[.ref a], []⟩ [.ref a] [.ref a] _ E0 hr.in1 e0 (by
    have := hb s [.ref a] I.kIn (by simpa using hl)
    simpa using this) (.cons rfl .nil) q) fun r s' hq => ?_)
  cases r with
  | error e => exact pass0 pins σ H s e s' I hq
  | ok fl =>
    cases fl with
    | ret w =>
      obtain ⟨z, H', I', rz, j, ez, l2, q2⟩ := I.after hq
      subst ez
      obtain ⟨tk, rfl⟩ := rz
      refine ⟨⟨?_, ?_⟩, .int j, H', I'.tok _, ⟨_, rfl⟩, q2⟩
      · omega
      · omega
    | next => exact False.elim hq
    | brk => exact False.elim hq
    | cont => exact False.elim hq
end
end UP

set_option Elab.async false
set_option linter.all false
set_option maxRecDepth 100000
set_option maxHeartbeats 4000000
set_option pp.maxSteps 300
namespace UP
open PySem PySem.Spec PyProof.Rows L2
/-- a list of operations -/
def Opl (H : Hp) (a : Addr) (ops : List Op) : Prop := ∃ xs, H a = some (.lst xs) ∧ Paired (OpV H) xs ops
theorem Opl.tk {H H' : Hp} {a : Addr} {R : List Op} (k : Tk H H') (c : ∀ o, H a = some o → H' a = some o) (h : Opl H a R) : Opl H' a R := by
  obtain ⟨xs, e, p⟩ := h
  exact ⟨xs, c _ e, Paired.imp (fun _ _ z => z.tk k) p⟩
theorem Opl.same {H H' : Hp} {a : Addr} {R : List Op} (s : Same H H') (h : Opl H a R) : Opl H' a R := h.tk (stk s) (fun o e => s _ _ e)
section
variable {P : Program} {w : World} {K : PySem.W.Frag} {mg : Str → Option Value} {base : Heap} {C : Addr}
/-! Station.__len__: slots 0:self -/
abbrev s_Station___len__ : Stmt := inClass (topS 41) 2
theorem sc_Station___len__ : FnScope ["self"] ["self"] (defScope s_Station___len__) := ⟨rfl, rfl, rfl, by decide +kernel, rfl, by decide +kernel, by decide +kernel⟩
def sp_Station_len (C : Addr) : Sp := fun vs H Q _ => ∃ (p ap ar ab : Addr) (S : Sta) (ops : List Op), vs = [.ref p] ∧ Stn C H p ap ar ab S ops ∧ Q (.int ops.length) H
theorem ok_Station___len__ (D : DfM K C "__len__" "Station.__len__" s_Station___len__) (T : Tx mg) (TS : ClsT K mg C) : HasM P w K mg base C 1 "__len__" ["self"] (sp_Station_len C) := by
  refine hasM_of D sc_Station___len__ (fun _ _ _ _ _ _ us hl => match us, hl with | [_], _ => rfl) (fun vs H Q E h => ?_) (fun f cdv A outer s₀ H vs Q E hr h => ?_)
  · obtain ⟨_, _, _, _, _, _, rfl, _⟩ := h
    rfl
  · obtain ⟨p, ap, ar, ab, S, ops, rfl, z, q⟩ := h
    obtain ⟨⟨dx, v, hp, hv⟩, _, _, ⟨xs, hx, hxp⟩, _⟩ := z
    rw [← Paired.len hxp] at q
    refine ⟨_, (pss_one (ps_ret (pe_callB call_len_seq (by rfl) T.n_len (by decide +kernel) (pa_cons (pe_fld (pv 0) rfl) pa_nil)))), ?_⟩
    exact ⟨_, rfl, p, C, dx, _, _, rfl, hp, TS.cl, TS.n6, fl6_past .., ap, xs, rfl, .inl (.of hx), q⟩
/-! Station.operations_done: slots 0:self 1:operation 2:before -/
abbrev s_Station_operations_done : Stmt := inClass (topS 41) 13
theorem sc_Station_operations_done : FnScope ["self", "operation", "before"] ["self"] (defScope s_Station_operations_done) := ⟨rfl, rfl, rfl, by decide +kernel, rfl, by decide +kernel, by decide +kernel⟩
def sp_Station_operations_done (C : Addr) : Sp := fun vs H Q _ => ∃ (p ap ar ab : Addr) (S : Sta) (ops : List Op), vs = [.ref p] ∧ Stn C H p ap ar ab S ops ∧ ops.length ≤ 50000 ∧ ∀ H' l, Same H H' → H l = none → Opl H' l ops → Q (.ref l) H'
theorem ok_Station_operations_done (D : DfM K C "operations_done" "Station.operations_done" s_Station_operations_done) (TS : ClsT K mg C) : HasM P w K mg base C 1 "operations_done" ["self"] (sp_Station_operations_done C) := by
  refine hasM_of D sc_Station_operations_done (fun _ _ _ _ _ _ us hl => match us, hl with | [_], _ => rfl) (fun vs H Q E h => ?_) (fun f cdv A outer s₀ H vs Q E hr h => ?_)
  · obtain ⟨_, _, _, _, _, _, rfl, _⟩ := h
    rfl
  · obtain ⟨p, ap, ar, ab, S, ops, rfl, z, lo, q⟩ := h
    obtain ⟨⟨dx, v, hp, hv⟩, _, _, ⟨xs, hx, hxp⟩, _⟩ := z
    have lx : xs.length = ops.length := Paired.len hxp
    refine ⟨_, (pss_one (ps_ret (pe_lc (own := [("operation", 1), ("before", 2)]) rfl sc_Station_operations_done.nd (pi_list (pe_fld (pv 0) rfl)) (blkOk_by (N := ["self", "operation", "before"]) (sc := defScope s_Station_operations_done) (by decide +kernel)) (fun _ _ _ _ _ => (pg_tupK (K := K) (n := 2) rfl rfl (pgs_cons (pg_name (i := 1) sc_Station_operations_done.nd rfl (by first | exact Or.inl rfl | exact Or.inr rfl)) (pgs_cons (pg_name (i := 2) sc_Station_operations_done.nd rfl (by first | exact Or.inl rfl | exact Or.inr rfl)) pgs_nil)))) (fun _ _ _ _ _ => pts_nil) (fun _ _ _ _ _ => (pv 1))))), ?_⟩
    refine ⟨_, rfl, p, C, dx, _, _, rfl, hp, TS.cl, TS.n6, fl6_past .., ap, rfl, ⟨xs, .of hx⟩, fun L nL => lc_list (K := K) (a := ap) (xs := xs) (fun i H' => Same H H' ∧ ∃ ys, H' L = some (.lst ys) ∧ Paired (OpV H') ys (ops.take i)) ⟨same_upd nL, [], upd_same, .nil⟩ (fun i H' _ hP => .of (hP.1 _ _ hx)) (fun i x H3 ex hP => ?_) (fun H3 hP => ?_)⟩
    · obtain ⟨s3, ys, hL, hy⟩ := hP
      obtain ⟨o, er, hr1⟩ := Paired.at hxp ex
      obtain ⟨t, u, b, rfl, ht, hu⟩ := PastV.tk (stk s3) hr1
      have li : i < xs.length := (List.getElem?_eq_some_iff.mp ex).1
      refine ⟨t, _, rfl, .of ht, rfl, _, _, rfl, _, _, rfl, rfl, rfl, yesT ?_⟩
      have tk := tk_but hL (by intro _ y; cases y) (but_upd (o := .lst (ys ++ [u])))
      refine ⟨_, rfl, _, hL, ?_, same_grow nL s3, _, upd_same, ?_⟩
      · have := Paired.len hy
        rw [List.length_take] at this
        exact small (by omega)
      · rw [take_snoc er]
        exact Paired.app (Paired.imp (fun _ _ z => z.tk tk) hy) (.cons (hu.tk tk) .nil)
    obtain ⟨s3, ys, hL, hy⟩ := hP
    rw [lx, List.take_length] at hy
    exact q _ L s3 nL ⟨ys, hL, hy⟩
end
end UP

set_option Elab.async false
set_option linter.all false
set_option maxRecDepth 100000
set_option maxHeartbeats 4000000
set_option pp.maxSteps 300
namespace UP
open PySem PySem.Spec PyProof.Rows L2
/-! ### an attribute as one of several targets -/
def gFld (K : PySem.W.Frag) (ta : TE) (f : Str) : TG := fun y σ H Q => ta σ H fun x H2 => ∃ a C dx fs, x = .ref a ∧ H2 a = some (.ins C dx fs) ∧ Cls K C ∧ NoAttr K C f ∧ fs.length < 1000 ∧ Q σ (upd H2 a (.ins C dx (putF f y fs)))
theorem pg_fld {X : Cx} {o : Expr} {ta : TE} {f : Str} {pos : Pos} (ho : PE X o ta) : PG X (.Attribute o f pos) (gFld X.K ta f) := by
  refine ⟨fun pins s σ H v u Q I r h => ?_⟩
  rw [assign_Attribute]
  refine wpAny_bind (wpAny_holding (thn (ho.run pins s σ H _ I h) fun ov s1 ⟨x, H1, I1, rx, a, C, dx, fs, ex, ea, c, n, l, q⟩ => ?_))
  subst ex
  obtain rfl : ov = Value.ref a := rx
  refine wpAny_bind (wpAny_standAt (wpAny_bind (wpAny_holding (setattr_ok I1 ea c n l r fun s3 I3 => ?_))))
  exact wpAny_release ⟨σ, _, I3, q⟩
end UP

set_option Elab.async false
set_option linter.all false
set_option maxRecDepth 100000
set_option maxHeartbeats 4000000
set_option pp.maxSteps 300
namespace UP
open PySem PySem.Spec PyProof.Rows L2
/-! ### a station that keeps what it was before each operation -/
structure Ent where
  o : Op
  S : Sta
  ar : Addr
  ab : Addr
def EntV (H : Hp) (v : V) (e : Ent) : Prop := ∃ t u tb v', v = .ref t ∧ H t = some (.tup [u, .ref tb]) ∧ OpV H u e.o ∧ H tb = some (.tup [v', .ref e.ar, .int e.S.n, .int e.S.m, .ref e.ab]) ∧ StV H v' e.S.st ∧ Rngs H e.ar e.S.R ∧ Blks H e.ab e.S.B
theorem EntV.keep {H H' : Hp} {v : V} {e : Ent} (k : Tk H H') (c1 : ∀ o, H e.ar = some o → H' e.ar = some o) (c2 : ∀ o, H e.ab = some o → H' e.ab = some o) (h : EntV H v e) : EntV H' v e := by
  obtain ⟨t, u, tb, v', rfl, ht, ho, hb, hv, hr, hl⟩ := h
  exact ⟨t, u, tb, v', rfl, k _ _ ht, ho.tk k, k _ _ hb, hv.tk k, hr.tk k c1, hl.tk k c2⟩
theorem EntV.past {H : Hp} {v : V} {e : Ent} (h : EntV H v e) : PastV H v e.o := by
  obtain ⟨t, u, tb, v', rfl, ht, ho, _⟩ := h
  exact ⟨t, u, .ref tb, rfl, ht, ho⟩
theorem ents_keep {H H' : Hp} (k : Tk H H') : ∀ {xs : List V} {es : List Ent}, (∀ e ∈ es, (∀ o, H e.ar = some o → H' e.ar = some o) ∧ ∀ o, H e.ab = some o → H' e.ab = some o) → Paired (EntV H) xs es → Paired (EntV H') xs es
  | [], [], _, _ => .nil
  | _ :: _, e :: _, c, .cons h t => .cons (h.keep k (c e (List.mem_cons_self ..)).1 (c e (List.mem_cons_self ..)).2) (ents_keep k (fun x hx => c x (List.mem_cons_of_mem _ hx)) t)
theorem ents_past {H : Hp} : ∀ {xs : List V} {es : List Ent}, Paired (EntV H) xs es → Paired (PastV H) xs (es.map (·.o))
  | [], [], _ => .nil
  | _ :: _, _ :: _, .cons h t => .cons h.past (ents_past t)
structure StnH (C : Addr) (H : Hp) (p ap ar ab : Addr) (S : Sta) (es : List Ent) : Prop where
  ob : ∃ dx v, H p = some (.ins C dx (fl6 v (.ref ar) (.int S.n) (.int S.m) (.ref ab) (.ref ap))) ∧ StV H v S.st
  rg : Rngs H ar S.R
  bl : Blks H ab S.B
  ps : ∃ xs, H ap = some (.lst xs) ∧ Paired (EntV H) xs es
  n1 : ap ≠ ar
  n2 : ap ≠ ab
  ne : ∀ e ∈ es, ap ≠ e.ar ∧ ap ≠ e.ab
theorem StnH.stn {C : Addr} {H : Hp} {p ap ar ab : Addr} {S : Sta} {es : List Ent} (z : StnH C H p ap ar ab S es) : Stn C H p ap ar ab S (es.map (·.o)) := by
  obtain ⟨xs, h, hp⟩ := z.ps
  exact ⟨z.ob, z.rg, z.bl, ⟨xs, h, ents_past hp⟩, z.n1, z.n2⟩
theorem StnH.keep {C : Addr} {H H' : Hp} {p ap ar ab : Addr} {S : Sta} {es : List Ent} (z : StnH C H p ap ar ab S es) (k : Tk H H') (k1 : ∀ o, H p = some o → H' p = some o) (k2 : ∀ o, H ap = some o → H' ap = some o) (k3 : ∀ o, H ar = some o → H' ar = some o) (k4 : ∀ o, H ab = some o → H' ab = some o)
    (k5 : ∀ e ∈ es, (∀ o, H e.ar = some o → H' e.ar = some o) ∧ ∀ o, H e.ab = some o → H' e.ab = some o) : StnH C H' p ap ar ab S es := by
  obtain ⟨⟨dx, v, h1, h2⟩, h3, h4, ⟨xs, h5, h5p⟩, h6, h7, h8⟩ := z
  exact ⟨⟨dx, v, k1 _ h1, h2.tk k⟩, h3.tk k k3, h4.tk k k4, ⟨xs, k2 _ h5, ents_keep k k5 h5p⟩, h6, h7, h8⟩
end UP

set_option Elab.async false
set_option linter.all false
set_option maxRecDepth 100000
set_option maxHeartbeats 4000000
set_option pp.maxSteps 300
namespace UP
open PySem PySem.Spec PyProof.Rows L2
section
variable {P : Program} {w : World} {K : PySem.W.Frag} {mg : Str → Option Value} {base : Heap} {C : Addr}

def sp_Station_remember (C : Addr) : Sp := fun vs H Q _ => ∃ (p ap ar ab : Addr) (S : Sta) (es : List Ent) (u : V) (o : Op), vs = [.ref p, u] ∧ StnH C H p ap ar ab S es ∧ OpV H u o ∧ es.length ≤ 100000 ∧ ∀ H', But ap H H' → StnH C H' p ap ar ab S (es ++ [⟨o, S, ar, ab⟩]) → Q .non H'
theorem ok_Station_remember (D : DfM K C "remember" "Station.remember" s_Station_remember) (TS : ClsT K mg C) : HasM P w K mg base C 1 "remember" ["self", "operation"] (sp_Station_remember C) := by
  refine hasM_of D sc_Station_remember (fun _ _ _ _ _ _ us hl => match us, hl with | [_, _], _ => rfl) (fun vs H Q E h => ?_) (fun f cdv A outer s₀ H vs Q E hr h => ?_)
  · obtain ⟨_, _, _, _, _, _, _, _, rfl, _⟩ := h
    rfl
  · obtain ⟨p, ap, ar, ab, S, es, u, o, rfl, z, hu, lo, q⟩ := h
    obtain ⟨⟨dx, v, hp, hv⟩, hR, hB, ⟨xs, hx, hxs⟩, n1, n2, ne⟩ := id z
    have lx : xs.length = es.length := Paired.len hxs
    refine ⟨_, (pss_cons (ps_set (i := 2) sc_Station_remember.nd rfl (by first | exact Or.inl rfl | exact Or.inr rfl) (pe_tup (pa_cons (pe_fld (pv 0) rfl) (pa_cons (pe_fld (pv 0) rfl) (pa_cons (pe_fld (pv 0) rfl) (pa_cons (pe_fld (pv 0) rfl) (pa_cons (pe_fld (pv 0) rfl) pa_nil)))))))
    (pss_one (ps_expr (pe_bm PySem.F.plainAttrs_list PySem.F.slot_list_append PySem.F.type_list_append mt_append (pe_fld (pv 0) rfl) (pa_cons (pe_tup (pa_cons (pv 1) (pa_cons (pv 2) pa_nil))) pa_nil))))), ?_⟩
    refine ⟨_, rfl, p, C, dx, _, _, rfl, hp, TS.cl, TS.n1, fl6_state .., _, rfl, p, C, dx, _, _, rfl, hp, TS.cl, TS.n2, fl6_ranges .., _, rfl, p, C, dx, _, _, rfl, hp, TS.cl, TS.n3, fl6_arrived .., _, rfl, p, C, dx, _, _, rfl, hp, TS.cl, TS.n4, fl6_paired .., _, rfl, p, C, dx, _, _, rfl, hp, TS.cl, TS.n5, fl6_blocks .., (by show 5 ≤ sizeLine; decide), fun t nt => ?_⟩
    have s1 := same_upd (o := .tup [v, .ref ar, .int S.n, .int S.m, .ref ab]) nt
    have ht : (upd H t (.tup [v, .ref ar, .int S.n, .int S.m, .ref ab])) t = some (.tup [v, .ref ar, .int S.n, .int S.m, .ref ab]) := upd_same
    generalize upd H t (.tup [v, .ref ar, .int S.n, .int S.m, .ref ab]) = H1 at *
    refine ⟨_, rfl, p, C, dx, _, _, rfl, s1 _ _ hp, TS.cl, TS.n6, fl6_past .., .inl ⟨rfl, _, SqL.of (s1 _ _ hx)⟩, _, rfl, _, rfl, (by show 2 ≤ sizeLine; decide), fun t2 nt2 => ?_⟩
    have s12 := same_upd (o := .tup [u, .ref t]) nt2
    have s2 := s1.trans s12
    have ht2 : (upd H1 t2 (.tup [u, .ref t])) t2 = some (.tup [u, .ref t]) := upd_same
    refine ⟨ap, _, _, rfl, rfl, s2 _ _ hx, small (by omega), ?_⟩
    generalize upd H1 t2 (.tup [u, .ref t]) = H2 at *
    have b3 : But ap H2 (upd H2 ap (.lst (xs ++ [.ref t2]))) := but_upd
    have hx3 : (upd H2 ap (.lst (xs ++ [.ref t2]))) ap = some (.lst (xs ++ [.ref t2])) := upd_same
    generalize upd H2 ap (.lst (xs ++ [.ref t2])) = H3 at *
    have k3 := tk_but (s2 _ _ hx) (by intro _ z; cases z) b3
    have kk : Tk H H3 := (stk s2).trans k3
    have at3 : ∀ {x : Addr}, ap ≠ x → ∀ o, H x = some o → H3 x = some o := fun {x} n o e => b3 _ _ n.symm (s2 _ _ e)
    have pa : p ≠ ap := ne_of hp hx (by intro z; cases z)
    refine q _ ((Same.but s2).trans b3) ⟨⟨dx, v, b3 _ _ pa (s2 _ _ hp), hv.tk kk⟩, hR.tk kk (at3 n1), hB.tk kk (at3 n2), ⟨_, hx3, Paired.app (ents_keep kk (fun e he => ⟨at3 (ne e he).1, at3 (ne e he).2⟩) hxs) (.cons ⟨t2, u, t, v, rfl, k3 _ _ ht2, hu.tk kk, k3 _ _ (s12 _ _ ht), hv.tk kk, hR.tk kk (at3 n1), hB.tk kk (at3 n2)⟩ .nil)⟩, n1, n2, fun e he => ?_⟩
    rcases List.mem_append.mp he with h | h
    · exact ne e h
    · rw [List.mem_singleton.mp h]
      exact ⟨n1, n2⟩
end
end UP

set_option Elab.async false
set_option linter.all false
set_option maxRecDepth 100000
set_option maxHeartbeats 4000000
set_option pp.maxSteps 300
namespace UP
open PySem PySem.Spec PyProof.Rows L2
/-- the list of what was -/
def PstH (H : Hp) (a : Addr) (es : List Ent) : Prop := ∃ xs, H a = some (.lst xs) ∧ Paired (EntV H) xs es
theorem ents_lst {H : Hp} : ∀ {xs : List V} {es : List Ent}, Paired (EntV H) xs es → ∀ e ∈ es, (∃ l, H e.ar = some (.lst l)) ∧ ∃ l, H e.ab = some (.lst l)
  | [], [], _, _, h => by cases h
  | _ :: _, e :: t, .cons h1 h2, x, hx => by
    rcases List.mem_cons.mp hx with z | z
    · rw [z]
      obtain ⟨_, _, _, _, _, _, _, _, _, ⟨l1, hr, _⟩, l2, hl, _⟩ := h1
      exact ⟨⟨l1, hr⟩, l2, hl⟩
    · exact ents_lst h2 x z
theorem PstH.same {H H' : Hp} {a : Addr} {es : List Ent} (h : PstH H a es) (s : Same H H') : PstH H' a es := by
  obtain ⟨xs, hx, p⟩ := h
  exact ⟨xs, s _ _ hx, ents_keep (stk s) (fun e _ => ⟨fun o z => s _ _ z, fun o z => s _ _ z⟩) p⟩
theorem PstH.ins {H H' : Hp} {a p C dx : Addr} {fs : List (Str × V)} {es : List Ent} (h : PstH H a es) (hp : H p = some (.ins C dx fs)) (b : But p H H') : PstH H' a es := by
  obtain ⟨xs, hx, px⟩ := h
  refine ⟨xs, b _ _ (ne_of hx hp (by intro z; cases z)) hx, ents_keep (tk_but hp (by intro _ z; cases z) b) (fun e he => ?_) px⟩
  obtain ⟨⟨l1, h1⟩, l2, h2⟩ := ents_lst px e he
  exact ⟨b.at (ne_of h1 hp (by intro z; cases z)), b.at (ne_of h2 hp (by intro z; cases z))⟩
theorem StnH.same {C : Addr} {H H' : Hp} {p ap ar ab : Addr} {S : Sta} {es : List Ent} (z : StnH C H p ap ar ab S es) (s : Same H H') : StnH C H' p ap ar ab S es :=
  z.keep (stk s) (fun _ e => s _ _ e) (fun _ e => s _ _ e) (fun _ e => s _ _ e) (fun _ e => s _ _ e) (fun e _ => ⟨fun _ y => s _ _ y, fun _ y => s _ _ y⟩)
theorem put_past {v st ra ar pa bl ps : V} : putF "past" v (fl6 st ra ar pa bl ps) = fl6 st ra ar pa bl v := by
  rw [fl6_eq, fl6_eq, putF_other (by decide +kernel), putF_other (by decide +kernel), putF_other (by decide +kernel), putF_other (by decide +kernel), putF_other (by decide +kernel), putF_hit]
section
variable {P : Program} {w : World} {K : PySem.W.Frag} {mg : Str → Option Value} {base : Heap} {C : Addr}
def sp_Station_arrive (C : Addr) : Sp := fun vs H Q _ => ∃ (p ap ar ab : Addr) (S : Sta) (es : List Ent) (k : Str) (c : Int), vs = [.ref p, .str k, .int c] ∧ StnH C H p ap ar ab S es ∧ KindOk k ∧ 1 ≤ c ∧ c ≤ 1000000000000000000000000000000 ∧ S.R.length ≤ 50000 ∧ S.B.length ≤ 500000 ∧ es.length ≤ 50000 ∧
  ∀ H' ar' ab', Fr p ap H H' → H ar' = none → H ab' = none → StnH C H' p ap ar' ab' (arrS S k c) (es ++ [⟨(("arrive" : Str), .inr k, c), S, ar, ab⟩]) → Q (.int (leavR S.st k c)) H'
theorem ok_Station_arrive (D : DfMD K C "arrive" "Station.arrive" s_Station_arrive (.int 1)) (T : Tx mg) (TS : ClsT K mg C) (G_check_kind : Has P w K mg base 2 "check_kind" ["kind"] sp_check_kind) (G_is_within : Has P w K mg base 2 "is_within" ["value", "low", "high"] sp_is_within)
    (G_Station_remember : HasM P w K mg base C 1 "remember" ["self", "operation"] (sp_Station_remember C)) (G_leaving_number : Has P w K mg base 1 "leaving_number" ["state", "kind", "count"] sp_leaving_number) (G_blocks_of_run : Has P w K mg base 1 "blocks_of_run" ["ranges", "start", "leaving"] sp_blocks_of_run)
    (G_ranges_after_run : Has P w K mg base 2 "ranges_after_run" ["ranges", "start", "count", "leaving"] sp_ranges_after_run) (G_state_after_run : Has P w K mg base 2 "state_after_run" ["state", "kind", "count"] sp_state_after_run) :
    HasMD P w K mg base C 3 "arrive" ["self", "kind", "count"] 2 "count" (.int 1) (sp_Station_arrive C) := by
  refine hasM_ofD D sc_Station_arrive rfl (fun _ _ _ _ _ _ _ us its hl h1 => match us, hl, its, h1 with | [_, _, _], _, [_], _ => ⟨_, rfl, rfl⟩) (fun _ _ _ _ _ _ _ us its hl h1 => match us, hl, its, h1 with | [_, _], _, [_], _ => ⟨_, rfl, rfl⟩) (fun _ _ _ _ _ _ _ us its v hl h1 => match us, hl, its, h1 with | [_, _], _, [_], _ => ⟨_, rfl, rfl⟩) (fun vs H Q E h => ?_) (fun f cdv A outer s₀ H vs Q E hr h => ?_)
  · obtain ⟨_, _, _, _, _, _, _, _, rfl, _⟩ := h
    rfl
  · obtain ⟨p, ap, ar, ab, S, es, k, c, rfl, z, kk, c1, c2, lR, lB, lO, q⟩ := h
    refine ⟨_, (pss_cons (ps_expr (pe_callH G_check_kind (hr.mono (by omega)) (by rfl) (pa_cons (pv 1) pa_nil)))
    (pss_cons (ps_if (pt_not (pt_val (pe_callH G_is_within (hr.mono (by omega)) (by rfl) (pa_cons (pv 2) (pa_cons pe_int (pa_cons (pe_glI T.c_MAX_COUNT (by rfl)) pa_nil)))))) (pss_one ps_never) pss_nil)
    (pss_cons (ps_expr (pe_methO (pv 0) TS.cl G_Station_remember (hr.mono (by omega)) (pa_cons (pe_tup (pa_cons pe_str (pa_cons (pv 1) (pa_cons (pv 2) pa_nil)))) pa_nil)))
    (pss_cons (ps_set (i := 3) sc_Station_arrive.nd rfl (by first | exact Or.inl rfl | exact Or.inr rfl) (pe_callH G_leaving_number (hr.mono (by omega)) (by rfl) (pa_cons (pe_fld (pv 0) rfl) (pa_cons (pv 1) (pa_cons (pv 2) pa_nil)))))
    (pss_cons (ps_fld (pv 0) (pe_op op_cat (pe_fld (pv 0) rfl) (pe_callH G_blocks_of_run (hr.mono (by omega)) (by rfl) (pa_cons (pe_fld (pv 0) rfl) (pa_cons (pe_fld (pv 0) rfl) (pa_cons (pv 3) pa_nil))))) rfl)
    (pss_cons (ps_fld (pv 0) (pe_callH G_ranges_after_run (hr.mono (by omega)) (by rfl) (pa_cons (pe_fld (pv 0) rfl) (pa_cons (pe_fld (pv 0) rfl) (pa_cons (pv 2) (pa_cons (pv 3) pa_nil))))) rfl)
    (pss_cons (ps_fld (pv 0) (pe_callH G_state_after_run (hr.mono (by omega)) (by rfl) (pa_cons (pe_fld (pv 0) rfl) (pa_cons (pv 1) (pa_cons (pv 2) pa_nil)))) rfl)
    (pss_cons (ps_fldaug (pv 0) (pv 2) in_add)
    (pss_cons (ps_fldaug (pv 0) (pv 3) in_add)
    (pss_one (ps_ret (pv 3)))))))))))), ?_⟩
    refine ⟨_, rfl, k, rfl, kk, fun H1 s1 => ?_⟩
    refine ⟨_, rfl, c, 1, _, rfl, _, rfl, iteN ?_ ?_⟩
    · rw [decide_eq_true ⟨c1, c2⟩]
      rfl
    have z1 := z.same s1
    obtain ⟨⟨dx, v, hp, hv⟩, hR, hB, _, _, _, _⟩ := id z1
    refine ⟨_, rfl, p, dx, _, rfl, hp, fl6_no nf_remember .., _, rfl, _, rfl, (by show 3 ≤ sizeLine; decide), fun t nt => ?_⟩
    have s2 := same_upd (o := .tup [.str "arrive", .str k, .int c]) nt
    refine ⟨p, ap, ar, ab, S, es, .ref t, (("arrive" : Str), .inr k, c), rfl, z1.same s2, ⟨t, rfl, upd_same⟩, by omega, fun H3 b3 z3 => ?_⟩
    have F3 : Fr p ap H H3 := (Fr.of s1).trans ((Fr.of s2).trans (Fr.but2 b3))
    clear z1 hp hv hR hB s2 nt b3 s1
    obtain ⟨⟨dx, v, hp, hv⟩, hR, hB, hP, n1, n2, ne3⟩ := id z3
    replace hP : PstH H3 ap _ := hP
    -- leaving
    refine ⟨_, rfl, p, C, dx, _, _, rfl, hp, TS.cl, TS.n1, fl6_state .., _, rfl, _, rfl, v, S.st, k, c, rfl, hv, ?_⟩
    -- blocks
    obtain ⟨bs, hbs, hbp⟩ := id hB
    have lb : bs.length = S.B.length := Paired.len hbp
    refine ⟨_, rfl, p, C, dx, _, _, rfl, hp, TS.cl, TS.n5, fl6_blocks .., _, rfl, p, C, dx, _, _, rfl, hp, TS.cl, TS.n2, fl6_ranges .., _, rfl, p, C, dx, _, _, rfl, hp, TS.cl, TS.n3, fl6_arrived .., _, rfl, ar, S.R, S.n, _, rfl, hR, by omega, fun H4 a4 s4 n4 ⟨b4, h4, h4p⟩ => ?_⟩
    have l4 : b4.length ≤ 50000 := by
      rw [Paired.len h4p]
      exact Nat.le_trans (brR_len _ _ _) lR
    refine ⟨ab, a4, bs, b4, rfl, rfl, s4 _ _ hbs, h4, Nat.le_of_lt (small (by omega)), fun ab' nb => ?_⟩
    have s5 := same_upd (o := .lst (bs ++ b4)) nb
    have hb5 : (upd H4 ab' (.lst (bs ++ b4))) ab' = some (.lst (bs ++ b4)) := upd_same
    have hbp5 : Paired (BV (upd H4 ab' (.lst (bs ++ b4)))) (bs ++ b4) (S.B ++ brR S.R S.n (leavR S.st k c)) := Paired.app (bvs_same (s4.trans s5) hbp) (bvs_same s5 h4p)
    generalize upd H4 ab' (.lst (bs ++ b4)) = H5 at *
    have s45 := s4.trans s5
    have nb3 : H3 ab' = none := s4.free nb
    have pab : ab' ≠ p := (ne_of_none (s4 _ _ hp) nb).symm
    refine ⟨_, rfl, p, C, dx, _, rfl, s45 _ _ hp, TS.cl, TS.n5, fl6_len .., ?_⟩
    rw [put_blocks]
    have hp6 : (upd H5 p (.ins C dx (fl6 v (.ref ar) (.int S.n) (.int S.m) (.ref ab') (.ref ap)))) p = some (.ins C dx (fl6 v (.ref ar) (.int S.n) (.int S.m) (.ref ab') (.ref ap))) := upd_same
    have b6 : But p H5 (upd H5 p (.ins C dx (fl6 v (.ref ar) (.int S.n) (.int S.m) (.ref ab') (.ref ap)))) := but_upd
    generalize upd H5 p (.ins C dx (fl6 v (.ref ar) (.int S.n) (.int S.m) (.ref ab') (.ref ap))) = H6 at *
    have k6 := tk_but (s45 _ _ hp) (by intro _ y; cases y) b6
    have pa : ap ≠ p := by
      obtain ⟨xs, e, _⟩ := hP
      exact ne_of e hp (by intro y; cases y)
    have pr : ar ≠ p := by
      obtain ⟨xs, e, _⟩ := hR
      exact ne_of e hp (by intro y; cases y)
    have hR6 := (hR.same s45).tk k6 (b6.at pr)
    have hB6 : Blks H6 ab' (S.B ++ brR S.R S.n (leavR S.st k c)) := Blks.tk k6 (b6.at pab) ⟨_, hb5, hbp5⟩
    have hP6 := (hP.same s45).ins (s45 _ _ hp) b6
    have hv6 := (hv.same s45).tk k6
    have F6 : Fr p ap H3 H6 := (Fr.of s45).trans (Fr.but1 b6)
    clear k6 b6 hbp5 hb5 s5 s45 h4p h4 s4 n4 l4 hbp hbs z3
    -- ranges
    refine ⟨_, rfl, p, C, dx, _, _, rfl, hp6, TS.cl, TS.n2, fl6_ranges .., _, rfl, p, C, dx, _, _, rfl, hp6, TS.cl, TS.n3, fl6_arrived .., _, rfl, _, rfl, ar, S.R, S.n, c, _, rfl, hR6, by omega, fun H7 ar' s7 nr h7 => ?_⟩
    have pr' : ar' ≠ p := (ne_of_none hp6 nr).symm
    refine ⟨_, rfl, p, C, dx, _, rfl, s7 _ _ hp6, TS.cl, TS.n2, fl6_len .., ?_⟩
    rw [put_ranges]
    have hp8 : (upd H7 p (.ins C dx (fl6 v (.ref ar') (.int S.n) (.int S.m) (.ref ab') (.ref ap)))) p = some (.ins C dx (fl6 v (.ref ar') (.int S.n) (.int S.m) (.ref ab') (.ref ap))) := upd_same
    have b8 : But p H7 (upd H7 p (.ins C dx (fl6 v (.ref ar') (.int S.n) (.int S.m) (.ref ab') (.ref ap)))) := but_upd
    generalize upd H7 p (.ins C dx (fl6 v (.ref ar') (.int S.n) (.int S.m) (.ref ab') (.ref ap))) = H8 at *
    have k8 := tk_but (s7 _ _ hp6) (by intro _ y; cases y) b8
    have hR8 := h7.tk k8 (b8.at pr')
    have hB8 := (hB6.same s7).tk k8 (b8.at pab)
    have hP8 := (hP6.same s7).ins (s7 _ _ hp6) b8
    have hv8 := (hv6.same s7).tk k8
    have F8 : Fr p ap H6 H8 := (Fr.of s7).trans (Fr.but1 b8)
    clear k8 b8 s7 h7
    -- state
    refine ⟨_, rfl, p, C, dx, _, _, rfl, hp8, TS.cl, TS.n1, fl6_state .., _, rfl, _, rfl, v, S.st, k, c, rfl, hv8, c1, fun H9 v' s9 h9 => ?_⟩
    refine ⟨_, rfl, p, C, dx, _, rfl, s9 _ _ hp8, TS.cl, TS.n1, fl6_len .., ?_⟩
    rw [put_state]
    have hp10 : (upd H9 p (.ins C dx (fl6 v' (.ref ar') (.int S.n) (.int S.m) (.ref ab') (.ref ap)))) p = some (.ins C dx (fl6 v' (.ref ar') (.int S.n) (.int S.m) (.ref ab') (.ref ap))) := upd_same
    have b10 : But p H9 (upd H9 p (.ins C dx (fl6 v' (.ref ar') (.int S.n) (.int S.m) (.ref ab') (.ref ap)))) := but_upd
    generalize upd H9 p (.ins C dx (fl6 v' (.ref ar') (.int S.n) (.int S.m) (.ref ab') (.ref ap))) = H10 at *
    have k10 := tk_but (s9 _ _ hp8) (by intro _ y; cases y) b10
    have hR10 := (hR8.same s9).tk k10 (b10.at pr')
    have hB10 := (hB8.same s9).tk k10 (b10.at pab)
    have hP10 := (hP8.same s9).ins (s9 _ _ hp8) b10
    have hv10 := h9.tk k10
    have F10 : Fr p ap H8 H10 := (Fr.of s9).trans (Fr.but1 b10)
    clear k10 b10 s9 h9
    -- arrived, paired
    refine ⟨_, rfl, p, C, dx, _, _, rfl, hp10, TS.cl, TS.n3, fl6_arrived .., _, rfl, _, _, rfl, rfl, dx, _, hp10, fl6_len .., ?_⟩
    rw [put_arrived]
    refine ⟨_, rfl, p, C, dx, _, _, rfl, upd_same, TS.cl, TS.n4, fl6_paired .., _, rfl, _, _, rfl, rfl, dx, _, upd_same, fl6_len .., ?_⟩
    rw [put_paired, upd_upd]
    have b12 : But p H10 (upd H10 p (.ins C dx (fl6 v' (.ref ar') (.int (S.n + c)) (.int (S.m + leavR S.st k c)) (.ref ab') (.ref ap)))) := but_upd
    have k12 := tk_but hp10 (by intro _ y; cases y) b12
    have fr : ∀ {Ha Hb : Hp} {x : Addr}, Fr p ap Ha Hb → Hb x = none → x ≠ p → x ≠ ap → Ha x = none := fun {Ha Hb x} b e n m => by
      cases y : Ha x with
      | none => rfl
      | some o =>
        rw [b _ _ n m y] at e
        cases e
    have aab : ap ≠ ab' := by
      obtain ⟨xs, e, _⟩ := hP
      exact ne_of_none e nb3
    have aar : ap ≠ ar' := by
      obtain ⟨xs, e, _⟩ := hP6
      exact ne_of_none e nr
    refine ⟨_, rfl, q _ ar' ab' (F3.trans (F6.trans (F8.trans (F10.trans (Fr.but1 b12))))) (fr (F3.trans F6) nr pr' aar.symm) (fr F3 nb3 pab aab.symm) ⟨⟨dx, v', upd_same, hv10.tk k12⟩, hR10.tk k12 (b12.at pr'), hB10.tk k12 (b12.at pab), hP10.ins hp10 b12, aar, aab, ne3⟩⟩
def sp_Station_give_up (C : Addr) : Sp := fun vs H Q _ => ∃ (p ap ar ab : Addr) (S : Sta) (es : List Ent) (k : Str) (i c : Int) (z : Rg), vs = [.ref p, .int i, .int c] ∧ StnH C H p ap ar ab S es ∧ S.st = some (k, numR S.st) ∧ 0 ≤ i ∧ 1 ≤ c ∧ i + c ≤ numR S.st ∧ (wfR S.R i).head? = some z ∧ S.R.length ≤ 50000 ∧ es.length ≤ 50000 ∧
  ∀ H' ar', Fr p ap H H' → H ar' = none → StnH C H' p ap ar' ab (givS S i c k) (es ++ [⟨(("give_up" : Str), .inl i, c), S, ar, ab⟩]) → Q (.int z.1) H'
theorem ok_Station_give_up (D : DfMD K C "give_up" "Station.give_up" s_Station_give_up (.int 1)) (T : Tx mg) (TS : ClsT K mg C) (G_waiting_number : Has P w K mg base 1 "waiting_number" ["state"] sp_waiting_number) (G_is_within : Has P w K mg base 2 "is_within" ["value", "low", "high"] sp_is_within)
    (G_Station_remember : HasM P w K mg base C 1 "remember" ["self", "operation"] (sp_Station_remember C)) (G_without_first : Has P w K mg base 1 "without_first" ["ranges", "number"] sp_without_first) (G_only_first : Has P w K mg base 1 "only_first" ["ranges", "number"] sp_only_first) (G_state_with : Has P w K mg base 1 "state_with" ["kind", "number"] sp_state_with) :
    HasMD P w K mg base C 3 "give_up" ["self", "index", "count"] 2 "count" (.int 1) (sp_Station_give_up C) := by
  refine hasM_ofD D sc_Station_give_up rfl (fun _ _ _ _ _ _ _ us its hl h1 => match us, hl, its, h1 with | [_, _, _], _, [_], _ => ⟨_, rfl, rfl⟩) (fun _ _ _ _ _ _ _ us its hl h1 => match us, hl, its, h1 with | [_, _], _, [_], _ => ⟨_, rfl, rfl⟩) (fun _ _ _ _ _ _ _ us its v hl h1 => match us, hl, its, h1 with | [_, _], _, [_], _ => ⟨_, rfl, rfl⟩) (fun vs H Q E h => ?_) (fun f cdv A outer s₀ H vs Q E hr h => ?_)
  · obtain ⟨_, _, _, _, _, _, _, _, _, _, rfl, _⟩ := h
    rfl
  · obtain ⟨p, ap, ar, ab, S, es, k, i, c, zr, rfl, z, est, i0, c1, ic, ez, lR, lO, q⟩ := h
    obtain ⟨⟨dx, v, hp, hv⟩, hR, hB, hP, n1, n2, ne0⟩ := id z
    refine ⟨_, (pss_cons (ps_set (i := 3) sc_Station_give_up.nd rfl (by first | exact Or.inl rfl | exact Or.inr rfl) (pe_callH G_waiting_number (hr.mono (by omega)) (by rfl) (pa_cons (pe_fld (pv 0) rfl) pa_nil)))
    (pss_cons (ps_if (PW.pt (pw_or (pt_not (pt_val (pe_callH G_is_within (hr.mono (by omega)) (by rfl) (pa_cons (pv 1) (pa_cons pe_int (pa_cons (pe_op op_sub (pv 3) pe_int) pa_nil)))))) (pw_or1 (pt_not (pt_val (pe_callH G_is_within (hr.mono (by omega)) (by rfl) (pa_cons (pv 2) (pa_cons pe_int (pa_cons (pe_op op_sub (pv 3) (pv 1)) pa_nil))))))))) (pss_one ps_never) pss_nil)
    (pss_cons (ps_expr (pe_methO (pv 0) TS.cl G_Station_remember (hr.mono (by omega)) (pa_cons (pe_tup (pa_cons pe_str (pa_cons (pv 1) (pa_cons (pv 2) pa_nil)))) pa_nil)))
    (pss_cons (ps_set (i := 4) sc_Station_give_up.nd rfl (by first | exact Or.inl rfl | exact Or.inr rfl) (pe_callH G_without_first (hr.mono (by omega)) (by rfl) (pa_cons (pe_fld (pv 0) rfl) (pa_cons (pv 1) pa_nil))))
    (pss_cons (ps_fld (pv 0) (pe_op op_cat (pe_callH G_only_first (hr.mono (by omega)) (by rfl) (pa_cons (pe_fld (pv 0) rfl) (pa_cons (pv 1) pa_nil))) (pe_callH G_without_first (hr.mono (by omega)) (by rfl) (pa_cons (pv 4) (pa_cons (pv 2) pa_nil)))) rfl)
    (pss_cons (ps_fld (pv 0) (pe_callH G_state_with (hr.mono (by omega)) (by rfl) (pa_cons (pe_ix ix_tup (pe_fld (pv 0) rfl) pe_int (fun _ _ => rfl)) (pa_cons (pe_op op_sub (pv 3) (pv 2)) pa_nil))) rfl)
    (pss_one (ps_ret (pe_ix ix_tup (pe_ix ix_list (pv 4) pe_int (fun _ _ => rfl)) pe_int (fun _ _ => rfl)))))))))), ?_⟩
    refine ⟨_, rfl, p, C, dx, _, _, rfl, hp, TS.cl, TS.n1, fl6_state .., v, S.st, rfl, hv, ?_⟩
    refine ⟨_, rfl, _, rfl, _, _, rfl, rfl, i, 0, _, rfl, _, rfl, iteN ?_ ?_⟩
    · rw [decide_eq_true ⟨i0, by omega⟩]
      rfl
    refine ⟨_, rfl, _, rfl, _, rfl, _, _, rfl, rfl, c, 1, _, rfl, _, rfl, iteN ?_ ?_⟩
    · rw [decide_eq_true ⟨c1, by omega⟩]
      rfl
    refine ⟨_, rfl, p, dx, _, rfl, hp, fl6_no nf_remember .., _, rfl, _, rfl, (by show 3 ≤ sizeLine; decide), fun t nt => ?_⟩
    have s2 := same_upd (o := .tup [.str "give_up", .int i, .int c]) nt
    refine ⟨p, ap, ar, ab, S, es, .ref t, (("give_up" : Str), .inl i, c), rfl, z.same s2, ⟨t, rfl, upd_same⟩, by omega, fun H3 b3 z3 => ?_⟩
    have F3 : Fr p ap H H3 := (Fr.of s2).trans (Fr.but2 b3)
    clear hp hv hR hB s2 nt b3 hP
    obtain ⟨⟨dx, v, hp, hv⟩, hR, hB, hP, n1, n2, ne3⟩ := id z3
    replace hP : PstH H3 ap _ := hP
    have pa : ap ≠ p := by
      obtain ⟨xs, e, _⟩ := hP
      exact ne_of e hp (by intro y; cases y)
    have pb : ab ≠ p := by
      obtain ⟨xs, e, _⟩ := hB
      exact ne_of e hp (by intro y; cases y)
    -- later
    refine ⟨_, rfl, p, C, dx, _, _, rfl, hp, TS.cl, TS.n2, fl6_ranges .., _, rfl, ar, S.R, i, rfl, hR, by omega, fun H4 a4 s4 n4 h4 => ?_⟩
    -- ranges
    refine ⟨_, rfl, p, C, dx, _, _, rfl, s4 _ _ hp, TS.cl, TS.n2, fl6_ranges .., _, rfl, ar, S.R, i, rfl, hR.same s4, by omega, fun H5 a5 s5 n5 ⟨b5, h5, h5p⟩ => ?_⟩
    refine ⟨_, rfl, _, rfl, a4, _, c, rfl, h4.same s5, Nat.le_trans (wfR_len _ _) (by omega), fun H6 a6 s6 n6 ⟨b6, h6, h6p⟩ => ?_⟩
    have l5 : b5.length ≤ 50000 := by
      rw [Paired.len h5p]
      exact Nat.le_trans (ofR_len _ _) lR
    have l6 : b6.length ≤ 50000 := by
      rw [Paired.len h6p]
      exact Nat.le_trans (wfR_len _ _) (Nat.le_trans (wfR_len _ _) lR)
    refine ⟨a5, a6, b5, b6, rfl, rfl, s6 _ _ h5, h6, Nat.le_of_lt (small (by omega)), fun ar' nr => ?_⟩
    have s7 := same_upd (o := .lst (b5 ++ b6)) nr
    have hr7 : (upd H6 ar' (.lst (b5 ++ b6))) ar' = some (.lst (b5 ++ b6)) := upd_same
    have hrp7 : Paired (PV (upd H6 ar' (.lst (b5 ++ b6)))) (b5 ++ b6) (ofR S.R i ++ wfR (wfR S.R i) c) := Paired.app (pvs_same (s6.trans s7) h5p) (pvs_same s7 h6p)
    generalize upd H6 ar' (.lst (b5 ++ b6)) = H7 at *
    have s47 := s4.trans (s5.trans (s6.trans s7))
    have pr' : ar' ≠ p := (ne_of_none ((s4.trans (s5.trans s6)) _ _ hp) nr).symm
    have nr3 : H3 ar' = none := (s4.trans (s5.trans s6)).free nr
    refine ⟨_, rfl, p, C, dx, _, rfl, s47 _ _ hp, TS.cl, TS.n2, fl6_len .., ?_⟩
    rw [put_ranges]
    have hp8 : (upd H7 p (.ins C dx (fl6 v (.ref ar') (.int S.n) (.int S.m) (.ref ab) (.ref ap)))) p = some (.ins C dx (fl6 v (.ref ar') (.int S.n) (.int S.m) (.ref ab) (.ref ap))) := upd_same
    have b8 : But p H7 (upd H7 p (.ins C dx (fl6 v (.ref ar') (.int S.n) (.int S.m) (.ref ab) (.ref ap)))) := but_upd
    generalize upd H7 p (.ins C dx (fl6 v (.ref ar') (.int S.n) (.int S.m) (.ref ab) (.ref ap))) = H8 at *
    have k8 := tk_but (s47 _ _ hp) (by intro _ y; cases y) b8
    have p4 : a4 ≠ p := (ne_of_none hp n4).symm
    have hR8 : Rngs H8 ar' (ofR S.R i ++ wfR (wfR S.R i) c) := Rngs.tk k8 (b8.at pr') ⟨_, hr7, hrp7⟩
    have hL8 := (h4.same (s5.trans (s6.trans s7))).tk k8 (b8.at p4)
    have hB8 := (hB.same s47).tk k8 (b8.at pb)
    have hP8 := (hP.same s47).ins (s47 _ _ hp) b8
    have hv8 := (hv.same s47).tk k8
    have F8 : Fr p ap H3 H8 := (Fr.of s47).trans (Fr.but1 b8)
    clear hrp7 hr7 s47 s4 s5 s6 s7 h5p h6p h5 h6 h4 b8 k8
    -- state
    have hv8' := hv8
    rw [est] at hv8'
    obtain ⟨tv, ev, htv⟩ := hv8'
    refine ⟨_, rfl, p, C, dx, _, _, rfl, hp8, TS.cl, TS.n1, fl6_state .., tv, _, 0, _, ev, rfl, .of htv, at0, _, rfl, _, rfl, _, _, rfl, rfl, k, _, rfl, fun H9 v' s9 h9 => ?_⟩
    refine ⟨_, rfl, p, C, dx, _, rfl, s9 _ _ hp8, TS.cl, TS.n1, fl6_len .., ?_⟩
    rw [put_state]
    have b10 : But p H9 (upd H9 p (.ins C dx (fl6 v' (.ref ar') (.int S.n) (.int S.m) (.ref ab) (.ref ap)))) := but_upd
    have hp10 : (upd H9 p (.ins C dx (fl6 v' (.ref ar') (.int S.n) (.int S.m) (.ref ab) (.ref ap)))) p = some (.ins C dx (fl6 v' (.ref ar') (.int S.n) (.int S.m) (.ref ab) (.ref ap))) := upd_same
    generalize upd H9 p (.ins C dx (fl6 v' (.ref ar') (.int S.n) (.int S.m) (.ref ab) (.ref ap))) = H10 at *
    have k10 := tk_but (s9 _ _ hp8) (by intro _ y; cases y) b10
    obtain ⟨ls, hls, hlp⟩ := (hL8.same s9).tk k10 (b10.at p4)
    have eh : ∃ x t, ls = x :: t ∧ PV H10 x zr := by
      generalize wfR S.R i = W at *
      cases hlp with
      | nil => cases ez
      | cons hx _ =>
        cases ez
        exact ⟨_, _, rfl, hx⟩
    obtain ⟨x, lt, rfl, ⟨tx, rfl, htx⟩⟩ := eh
    have fr : ∀ {Ha Hb : Hp} {x : Addr}, Fr p ap Ha Hb → Hb x = none → x ≠ p → x ≠ ap → Ha x = none := fun {Ha Hb x} b e n m => by
      cases y : Ha x with
      | none => rfl
      | some o =>
        rw [b _ _ n m y] at e
        cases e
    have aar : ap ≠ ar' := by
      obtain ⟨xs, e, _⟩ := hP
      exact ne_of_none e nr3
    refine ⟨_, rfl, a4, _, 0, _, rfl, rfl, .of hls, atI_ofB (Int.le_refl _) rfl, tx, _, 0, _, rfl, rfl, .of htx, at0, ?_⟩
    exact q _ ar' (F3.trans (F8.trans ((Fr.of s9).trans (Fr.but1 b10)))) (fr F3 nr3 pr' aar.symm) ⟨⟨dx, v', hp10, h9.tk k10⟩, (hR8.same s9).tk k10 (b10.at pr'), (hB8.same s9).tk k10 (b10.at pb), (hP8.same s9).ins (s9 _ _ hp8) b10, aar, n2, ne3⟩
/-! Station.undo: slots 0:self 1:operation 2:before -/
abbrev s_Station_undo : Stmt := inClass (topS 41) 6
theorem sc_Station_undo : FnScope ["self", "operation", "before"] ["self"] (defScope s_Station_undo) := ⟨rfl, rfl, rfl, by decide +kernel, rfl, by decide +kernel, by decide +kernel⟩
def sp_Station_undo (C : Addr) : Sp := fun vs H Q _ => ∃ (p ap ar ab : Addr) (S : Sta) (es : List Ent) (e : Ent), vs = [.ref p] ∧ StnH C H p ap ar ab S (es ++ [e]) ∧ ∀ H', Fr p ap H H' → StnH C H' p ap e.ar e.ab e.S es → Q .non H'
theorem ok_Station_undo (D : DfM K C "undo" "Station.undo" s_Station_undo) (T : Tx mg) (TS : ClsT K mg C) : HasM P w K mg base C 1 "undo" ["self"] (sp_Station_undo C) := by
  refine hasM_of D sc_Station_undo (fun _ _ _ _ _ _ us hl => match us, hl with | [_], _ => rfl) (fun vs H Q E h => ?_) (fun f cdv A outer s₀ H vs Q E hr h => ?_)
  · obtain ⟨_, _, _, _, _, _, _, rfl, _⟩ := h
    rfl
  · obtain ⟨p, ap, ar, ab, S, es, e, rfl, z, q⟩ := h
    obtain ⟨⟨dx, v, hp, hv⟩, hR, hB, ⟨xs, hx, hxp⟩, n1, n2, ne⟩ := id z
    obtain ⟨ys, y, rfl, hy, he⟩ := paired_snocR es e hxp
    refine ⟨_, (pss_cons (ps_if (pt_cmpR op_eq (pe_callB call_len_seq (by rfl) T.n_len (by decide +kernel) (pa_cons (pe_fld (pv 0) rfl) pa_nil)) pe_int (nomark _)) (pss_one ps_never) pss_nil)
    (pss_cons (ps_asg (pe_bm0 PySem.F.plainAttrs_list PySem.F.slot_list_pop PySem.F.type_list_pop mt_pop (pe_fld (pv 0) rfl)) (pg_tup rfl (pgs_cons (pg_name (i := 1) sc_Station_undo.nd rfl (by first | exact Or.inl rfl | exact Or.inr rfl)) (pgs_cons (pg_name (i := 2) sc_Station_undo.nd rfl (by first | exact Or.inl rfl | exact Or.inr rfl)) pgs_nil))))
    (pss_one (ps_asg (pv 2) (pg_tup rfl (pgs_cons (pg_fld (pv 0)) (pgs_cons (pg_fld (pv 0)) (pgs_cons (pg_fld (pv 0)) (pgs_cons (pg_fld (pv 0)) (pgs_cons (pg_fld (pv 0)) pgs_nil)))))))))), ?_⟩
    refine ⟨_, rfl, p, C, dx, _, _, rfl, hp, TS.cl, TS.n6, fl6_past .., ap, _, rfl, .inl (.of hx), rfl, _, rfl, iteN (decide_eq_false (fun z => ?_)) ?_⟩
    · have z := V.int.inj z
      rw [List.length_append] at z
      have z : ((ys.length + 1 : Nat) : Int) = 0 := z
      omega
    refine ⟨_, rfl, p, C, dx, _, _, rfl, hp, TS.cl, TS.n6, fl6_past .., .inl ⟨rfl, _, SqL.of hx⟩, ap, ys ++ [y], y, rfl, rfl, hx, (by simp), ?_⟩
    have b1 : But ap H (upd H ap (.lst (ys ++ [y]).dropLast)) := but_upd
    have hx1 : (upd H ap (.lst (ys ++ [y]).dropLast)) ap = some (.lst ys) := by rw [upd_same, List.dropLast_concat]
    generalize upd H ap (.lst (ys ++ [y]).dropLast) = H1 at *
    have k1 : Tk H H1 := tk_but hx (by intro _ z; cases z) b1
    have pa : p ≠ ap := ne_of hp hx (by intro z; cases z)
    have hp1 := b1 _ _ pa hp
    have hne := ne e (List.mem_append.mpr (.inr (List.mem_singleton.mpr rfl)))
    have hy1 := ents_keep k1 (fun x hx => ⟨b1.at (ne x (List.mem_append.mpr (.inl hx))).1.symm, b1.at (ne x (List.mem_append.mpr (.inl hx))).2.symm⟩) hy
    have he1 := he.keep k1 (b1.at hne.1.symm) (b1.at hne.2.symm)
    obtain ⟨t, u, tb, v', rfl, ht, ho, hb, hv', hr', hl'⟩ := he1
    refine ⟨t, _, rfl, .of ht, rfl, _, _, rfl, _, _, rfl, rfl, ?_⟩
    refine ⟨_, rfl, tb, _, rfl, .of hb, rfl, _, _, rfl, _, rfl, p, C, dx, _, rfl, hp1, TS.cl, TS.n1, fl6_len .., ?_⟩
    rw [put_state]
    refine ⟨_, _, rfl, _, rfl, p, C, dx, _, rfl, upd_same, TS.cl, TS.n2, fl6_len .., ?_⟩
    rw [put_ranges, upd_upd]
    refine ⟨_, _, rfl, _, rfl, p, C, dx, _, rfl, upd_same, TS.cl, TS.n3, fl6_len .., ?_⟩
    rw [put_arrived, upd_upd]
    refine ⟨_, _, rfl, _, rfl, p, C, dx, _, rfl, upd_same, TS.cl, TS.n4, fl6_len .., ?_⟩
    rw [put_paired, upd_upd]
    refine ⟨_, _, rfl, _, rfl, p, C, dx, _, rfl, upd_same, TS.cl, TS.n5, fl6_len .., ?_⟩
    rw [put_blocks, upd_upd]
    have b2 : But p H1 (upd H1 p (.ins C dx (fl6 v' (.ref e.ar) (.int e.S.n) (.int e.S.m) (.ref e.ab) (.ref ap)))) := but_upd
    have k2 := tk_but hp1 (by intro _ z; cases z) b2
    have rb : ∀ {x : Addr} {l : List V}, H1 x = some (.lst l) → x ≠ p := fun {x l} e => ne_of e hp1 (by intro z; cases z)
    obtain ⟨lr, hlr, hlrp⟩ := id hr'
    obtain ⟨ll, hll, hllp⟩ := id hl'
    refine ⟨rfl, q _ ((Fr.but2 b1).trans (Fr.but1 b2)) ⟨⟨dx, v', upd_same, hv'.tk k2⟩, hr'.tk k2 (b2.at (rb hlr)), hl'.tk k2 (b2.at (rb hll)), ?_, hne.1, hne.2, fun x hx => ne x (List.mem_append.mpr (.inl hx))⟩⟩
    exact PstH.ins ⟨ys, hx1, hy1⟩ hp1 b2
end
end UP

set_option Elab.async false
set_option linter.all false
set_option maxRecDepth 100000
set_option maxHeartbeats 4000000
namespace UP
open PySem PySem.Spec PyProof.Rows L2
theorem paired_snocW {α β : Type} {F : α → β → Prop} : ∀ {xs : List α} (l : List β) (y : β), Paired F xs (l ++ [y]) → ∃ xs0 x, xs = xs0 ++ [x] ∧ Paired F xs0 l ∧ F x y
  | _, [], y, h => by
    cases h with
    | cons h1 h2 =>
      cases h2
      exact ⟨[], _, rfl, .nil, h1⟩
  | _, z :: l, y, h => by
    cases h with
    | cons h1 h2 =>
      obtain ⟨xs0, x, e, h3, h4⟩ := paired_snocW l y h2
      exact ⟨_ :: xs0, x, by rw [e]; rfl, .cons h1 h3, h4⟩
theorem set_lastW {α : Type} : ∀ (l : List α) (x y : α), (l ++ [x]).set l.length y = l ++ [y]
  | [], _, _ => rfl
  | z :: l, x, y => congrArg (z :: ·) (set_lastW l x y)
theorem ixN_lastW {n : Nat} : ixN (n + 1) (-1) = some n := by
  unfold ixN
  simp
  omega
/-! ### one more run -/
def addR (rs : List Run) (r : Run) : List Run := match rs.getLast? with
  | none => [r]
  | some l => if l.1 = r.1 then rs.dropLast ++ [(r.1, l.2 + r.2)] else rs ++ [r]
def joinR (rs cs : List Run) : List Run := cs.foldl addR rs
theorem joinR_snoc (rs cs : List Run) (r : Run) : joinR rs (cs ++ [r]) = addR (joinR rs cs) r := by
  unfold joinR
  rw [List.foldl_append]
  rfl
theorem addR_len (rs : List Run) (r : Run) : (addR rs r).length ≤ rs.length + 1 := by
  unfold addR
  split
  · exact Nat.le_add_left _ _
  · split
    · rw [List.length_append, List.length_dropLast]
      simp only [List.length_cons, List.length_nil]
      omega
    · rw [List.length_append]
      exact Nat.le_refl _
theorem joinR_len : ∀ (cs rs : List Run), (joinR rs cs).length ≤ rs.length + cs.length
  | [], _ => Nat.le_refl _
  | c :: t, rs => by
    have h1 := joinR_len t (addR rs c)
    have h2 := addR_len rs c
    show (joinR (addR rs c) t).length ≤ _
    rw [List.length_cons]
    omega
theorem RunV.butL {H H' : Hp} {p : Addr} {xs : List V} {v : V} {r : Run} (hp : H p = some (.lst xs)) (b : But p H H') (h : RunV H v r) : RunV H' v r := by
  obtain ⟨t, e, h⟩ := h
  exact ⟨t, e, b _ _ (ne_of h hp (by intro q; cases q)) h⟩
section
variable {P : Program} {w : World} {K : PySem.W.Frag} {mg : Str → Option Value} {base : Heap}
/-! add_run: slots 0:runs 1:kind 2:count -/
abbrev s_add_run : Stmt := topS 26
theorem sc_add_run : FnScope ["runs", "kind", "count"] ["runs", "kind", "count"] (defScope s_add_run) := ⟨rfl, rfl, rfl, by decide +kernel, rfl, by decide +kernel, by decide +kernel⟩
def sp_add_run : Sp := fun vs H Q _ => ∃ (a : Addr) (rs : List Run) (r : Run), vs = [.ref a, .str r.1, .int r.2] ∧ Runs H a rs ∧ rs.length ≤ 100000 ∧ ∀ H', But a H H' → Runs H' a (addR rs r) → Q .non H'
theorem ok_add_run (D : Df K mg "add_run" s_add_run) : Has P w K mg base 1 "add_run" ["runs", "kind", "count"] sp_add_run := by
  refine has_of D sc_add_run (fun _ _ _ _ _ _ us hl => match us, hl with | [_, _, _], _ => rfl) (fun vs H Q E h => ?_) (fun f cdv A outer s₀ H vs Q E hr h => ?_)
  · obtain ⟨a, R, n, rfl, _⟩ := h
    rfl
  · obtain ⟨a, rs, r, rfl, ⟨xs, hx, hp⟩, l4, q⟩ := h
    have lx : xs.length = rs.length := Paired.len hp
    have app : ∀ (u : Addr), H u = none → (addR rs r = rs ++ [r]) → Q .non (upd (upd H u (.tup [.str r.1, .int r.2])) a (.lst (xs ++ [.ref u]))) := by
      intro u nn e
      refine q _ (fun b o nb eb => ?_) ⟨_, upd_same, ?_⟩
      · rw [upd_ne nb]
        exact same_upd nn _ _ eb
      · rw [e]
        exact Paired.app (prs_grow (same_upd nn _ _ hx) (prs_same (same_upd nn) hp)) (.cons (RunV.grow (same_upd nn _ _ hx) ⟨u, rfl, upd_same⟩) .nil)
    refine ⟨_, (pss_one (ps_if (PW.pt (pw_and (pt_truth (pv 0) (by intro _; rfl)) (pw_and1 (pt_cmpR op_eq (pe_ix ix_tup (pe_ix ix_list (pv 0) (pe_un un_neg pe_int) (fun _ _ => rfl)) pe_int (fun _ _ => rfl)) (pv 1) (nomark _))))) (pss_one (ps_asg (pe_tup (pa_cons (pv 1) (pa_cons (pe_op op_add (pe_ix ix_tup (pe_ix ix_list (pv 0) (pe_un un_neg pe_int) (fun _ _ => rfl)) pe_int (fun _ _ => rfl)) (pv 2)) pa_nil))) (pg_sub (pv 0) (pe_un un_neg pe_int) set_list))) (pss_one (ps_expr (pe_bm PySem.F.plainAttrs_list PySem.F.slot_list_append PySem.F.type_list_append mt_append (pv 0) (pa_cons (pe_tup (pa_cons (pv 1) (pa_cons (pv 2) pa_nil))) pa_nil)))))), ?_⟩
    rcases List.eq_nil_or_concat rs with e0 | ⟨R0, l, e0⟩
    · subst e0
      cases hp
      exact ⟨_, rfl, false, .inl ⟨[], .of hx, rfl⟩, iteF (iteF ⟨_, rfl, .inl ⟨rfl, _, SqL.of hx⟩, _, rfl, _, rfl, (by show 2 ≤ sizeLine; decide), fun u nn => ⟨a, _, _, rfl, rfl, same_upd nn _ _ hx, (by show 0 < sizeLine; decide), app u nn rfl⟩⟩)⟩
    · rw [List.concat_eq_append] at e0
      subst e0
      obtain ⟨ys0, y, rfl, hy0, ⟨tl, rfl, htl⟩⟩ := paired_snocW R0 l hp
      have exl : atI (ys0 ++ [V.ref tl]) (-1) = some (.ref tl) := atI_last _ _
      refine ⟨_, rfl, true, .inl ⟨_, .of hx, by cases ys0 <;> rfl⟩, iteT ⟨_, rfl, 1, rfl, a, _, -1, _, rfl, rfl, .of hx, exl, tl, _, 0, _, rfl, rfl, .of htl, at0, _, rfl, rfl, _, rfl, ite2 (fun e1 => ?_) (fun e1 => ?_)⟩⟩
      · have e1 : l.1 = r.1 := V.str.inj (of_decide_eq_true e1)
        have er : addR (R0 ++ [l]) r = R0 ++ [(r.1, l.2 + r.2)] := by
          unfold addR
          rw [List.getLast?_concat, List.dropLast_concat]
          exact if_pos e1
        refine ⟨_, rfl, _, rfl, 1, rfl, a, _, -1, _, rfl, rfl, .of hx, exl, tl, _, 1, _, rfl, rfl, .of htl, at1, _, rfl, _, _, rfl, rfl, (by show 2 ≤ sizeLine; decide), fun u nn => ⟨_, rfl, 1, rfl, a, _, -1, ys0.length, rfl, rfl, same_upd nn _ _ hx, ?_, ?_⟩⟩
        · rw [List.length_append]
          exact ixN_lastW
        · rw [set_lastW]
          refine q _ (fun b o nb eb => ?_) ⟨_, upd_same, ?_⟩
          · rw [upd_ne nb]
            exact same_upd nn _ _ eb
          · rw [er]
            exact Paired.app (prs_grow (same_upd nn _ _ hx) (prs_same (same_upd nn) hy0)) (.cons (RunV.grow (same_upd nn _ _ hx) ⟨u, rfl, upd_same⟩) .nil)
      · have e1 : ¬ l.1 = r.1 := fun z => e1 (decide_eq_true (by rw [z]))
        have er : addR (R0 ++ [l]) r = (R0 ++ [l]) ++ [r] := by
          unfold addR
          rw [List.getLast?_concat]
          exact if_neg e1
        exact ⟨_, rfl, .inl ⟨rfl, _, SqL.of hx⟩, _, rfl, _, rfl, (by show 2 ≤ sizeLine; decide), fun u nn => ⟨a, _, _, rfl, rfl, same_upd nn _ _ hx, small (by omega), app u nn er⟩⟩
/-! joined: slots 0:first 1:second 2:runs 3:kind 4:count -/
abbrev s_joined : Stmt := topS 27
theorem sc_joined : FnScope ["first", "second", "runs", "kind", "count"] ["first", "second"] (defScope s_joined) := ⟨rfl, rfl, rfl, by decide +kernel, rfl, by decide +kernel, by decide +kernel⟩
def sp_joined : Sp := fun vs H Q _ => ∃ (av bv : V) (rs cs : List Run), vs = [av, bv] ∧ RunsG H av rs ∧ SeqOk rs ∧ RunsG H bv cs ∧ SeqOk cs ∧ (joinR rs cs).length ≤ 400 ∧ (∀ r ∈ joinR rs cs, r.2 ≤ 1000000000000000000000000000000) ∧ ∀ H' p, Same H H' → H p = none → Runs H' p (joinR rs cs) → Q (.ref p) H'
theorem ok_joined (D : Df K mg "joined" s_joined) (T : Tx mg) (G_checked_runs : Has P w K mg base 5 "checked_runs" ["sequence"] sp_checked_runs) (G_add_run : Has P w K mg base 1 "add_run" ["runs", "kind", "count"] sp_add_run) :
    Has P w K mg base 6 "joined" ["first", "second"] sp_joined := by
  refine has_of D sc_joined (fun _ _ _ _ _ _ us hl => match us, hl with | [_, _], _ => rfl) (fun vs H Q E h => ?_) (fun f cdv A outer s₀ H vs Q E hr h => ?_)
  · obtain ⟨a, R, n, m, rfl, _⟩ := h
    rfl
  · obtain ⟨av, bv, rs, cs, rfl, hA, oka, hB, okb, jl, jc, q⟩ := h
    have la := oka.1
    have lb := okb.1
    refine ⟨_, (pss_cons (ps_set (i := 2) sc_joined.nd rfl (by first | exact Or.inl rfl | exact Or.inr rfl) (pe_callH G_checked_runs (hr.mono (by omega)) (by rfl) (pa_cons (pv 0) pa_nil)))
    (pss_cons (ps_for PassesOwn.never rfl (pi_list (pe_callH G_checked_runs (hr.mono (by omega)) (by rfl) (pa_cons (pv 1) pa_nil))) (pg_tup rfl (pgs_cons (pg_name (i := 3) sc_joined.nd rfl (by first | exact Or.inl rfl | exact Or.inr rfl)) (pgs_cons (pg_name (i := 4) sc_joined.nd rfl (by first | exact Or.inl rfl | exact Or.inr rfl)) pgs_nil)))
      (pss_one (ps_expr (pe_callH G_add_run (hr.mono (by omega)) (by rfl) (pa_cons (pv 2) (pa_cons (pv 3) (pa_cons (pv 4) pa_nil)))))))
    (pss_cons (ps_if (PW.pt (pw_or (pt_cmpR op_gt (pe_callB call_len_seq (by rfl) T.n_len (by decide +kernel) (pa_cons (pv 2) pa_nil)) (pe_glI T.c_MAX_RUNS (by rfl)) (nomark _)) (pw_or1 (pt_val (pe_callB (cr_any rfl) (by rfl) T.n_any (by decide +kernel) (pa_cons (pe_lc (own := [("kind", 3), ("count", 4)]) rfl sc_joined.nd (pi_list (pv 2)) (blkOk_by (N := ["first", "second", "runs", "kind", "count"]) (sc := defScope s_joined) (by decide +kernel)) (fun _ _ _ _ _ => (pg_tupK (K := K) (n := 2) rfl rfl (pgs_cons (pg_name (i := 3) sc_joined.nd rfl (by first | exact Or.inl rfl | exact Or.inr rfl)) (pgs_cons (pg_name (i := 4) sc_joined.nd rfl (by first | exact Or.inl rfl | exact Or.inr rfl)) pgs_nil)))) (fun _ _ _ _ _ => pts_nil) (fun _ _ _ _ _ => (pe_cmpR op_gt (pv 4) (pe_glI T.c_MAX_COUNT (by rfl)) (nomark _)))) pa_nil)))))) (pss_one ps_never) pss_nil)
    (pss_one (ps_ret (pv 2)))))), ?_⟩
    refine ⟨_, rfl, av, rs, rfl, hA, oka, fun H1 p s1 np hp => ?_⟩
    refine ⟨_, rfl, bv, cs, rfl, hB.same s1, okb, fun H2 p2 s2 n2 h2 => ?_⟩
    obtain ⟨xs, hx, hpr⟩ := h2
    have lx : xs.length = cs.length := Paired.len hpr
    have hp2 := hp.same s2
    have sA := s1.trans s2
    have np2 : p2 ≠ p := by
      obtain ⟨_, e, _⟩ := hp
      exact fun z => by rw [z, e] at n2; cases n2
    refine ⟨p2, rfl, ⟨xs, .of hx⟩, for_list (K := K) (a := p2) (xs := xs) (fun i σ H' => ∃ y3 y4, σ = [some av, some bv, some (.ref p), y3, y4] ∧ But p H2 H' ∧ Runs H' p (joinR rs (cs.take i)))
      ⟨none, none, rfl, fun _ _ _ e => e, hp2⟩ (fun i σ H' _ hP => ?_) (fun i x σ H4 ex hP => ?_) (fun σ H4 hP => ?_)⟩
    · obtain ⟨_, _, _, bt, _⟩ := hP
      exact .of (bt _ _ np2 hx)
    · obtain ⟨y3, y4, rfl, bt, hR⟩ := hP
      obtain ⟨r, er, hr1⟩ := Paired.at hpr ex
      obtain ⟨_, hpl, _⟩ := id hp2
      obtain ⟨t, rfl, ht⟩ := RunV.butL hpl bt hr1
      have hl := joinR_len (cs.take i) rs
      rw [List.length_take] at hl
      refine ⟨t, _, rfl, .of ht, rfl, _, _, rfl, _, _, rfl, rfl, ?_⟩
      refine ⟨_, rfl, _, rfl, _, rfl, p, _, r, rfl, hR, by omega, fun H5 b5 h5 => ⟨_, _, rfl, bt.trans b5, ?_⟩⟩
      rw [take_snoc er, joinR_snoc]
      exact h5
    · obtain ⟨y3, y4, rfl, bt, hR⟩ := hP
      rw [lx, List.take_length] at hR
      obtain ⟨zs, hz, hzp⟩ := hR
      have lz : zs.length = (joinR rs cs).length := Paired.len hzp
      have sB : Same H H4 := fun b o e => bt _ _ (ne_of_none e np) (sA _ _ e)
      refine ⟨_, rfl, p, zs, rfl, .inl (.of hz), _, _, rfl, rfl, _, rfl, iteN (decide_eq_false (by omega)) ?_⟩
      refine ⟨_, rfl, p, rfl, ⟨zs, .of hz⟩, fun L nL => lc_list (K := K) (a := p) (xs := zs) (fun i H' => Same H4 H' ∧ H' L = some (.lst ((List.replicate i false).map V.bl))) ⟨same_upd nL, upd_same⟩ (fun i H' _ p => .of (p.1 _ _ hz)) (fun i x H5 ex hP => ?_) (fun H5 hP => ?_)⟩
      · obtain ⟨sm, hL⟩ := hP
        obtain ⟨r, er, hr1⟩ := Paired.at hzp ex
        obtain ⟨t, rfl, ht⟩ := RunV.same sm hr1
        have hi : i < zs.length := (List.getElem?_eq_some_iff.mp ex).1
        have c1 := jc r (List.mem_of_getElem? er)
        refine ⟨t, _, rfl, .of ht, rfl, _, _, rfl, _, _, rfl, rfl, rfl, yesT ⟨_, rfl, _, _, rfl, rfl, _, hL, ?_, same_grow nL sm, ?_⟩⟩
        · simp only [List.length_map, List.length_replicate]
          exact small (by omega)
        · have eb : decide ((1000000000000000000000000000000 : Int) < r.2) = false := decide_eq_false (by omega)
          rw [upd_same, List.replicate_succ', List.map_append]
          show some (HO.lst (_ ++ [V.bl (decide ((1000000000000000000000000000000 : Int) < r.2))])) = _
          rw [eb]
          rfl
      · obtain ⟨s5, hL⟩ := hP
        refine ⟨L, _, rfl, .of hL, _, rfl, iteN (by simp) ?_⟩
        exact ⟨_, rfl, q H5 p (sB.trans s5) np ⟨zs, s5 _ _ hz, prs_same s5 hzp⟩⟩
end
end UP

set_option Elab.async false
set_option linter.all false
set_option maxRecDepth 100000
set_option maxHeartbeats 4000000
namespace UP
open PySem PySem.Spec PyProof.Rows L2
def runR (ks : List Str) : List Run := ks.foldl (fun rs k => addR rs (k, 1)) []
theorem runR_snoc (ks : List Str) (k : Str) : runR (ks ++ [k]) = addR (runR ks) (k, 1) := by
  unfold runR
  rw [List.foldl_append]
  rfl
theorem runR_len (ks : List Str) : (runR ks).length ≤ ks.length := by
  have gen : ∀ (ks : List Str) (rs : List Run), (ks.foldl (fun rs k => addR rs (k, 1)) rs).length ≤ rs.length + ks.length := by
    intro ks
    induction ks with
    | nil => intro rs; exact Nat.le_refl _
    | cons k t ih =>
      intro rs
      have h1 := ih (addR rs (k, 1))
      have h2 := addR_len rs (k, 1)
      show (t.foldl (fun rs k => addR rs (k, 1)) (addR rs (k, 1))).length ≤ _
      rw [List.length_cons]
      omega
  have := gen ks []
  rw [List.length_nil, Nat.zero_add] at this
  exact this
section
variable {P : Program} {w : World} {K : PySem.W.Frag} {mg : Str → Option Value} {base : Heap}
end
end UP

set_option Elab.async false
set_option linter.all false
set_option maxRecDepth 100000
set_option maxHeartbeats 4000000
namespace UP
open PySem PySem.Spec PyProof.Rows L2
theorem Alt.tail {r : Run} {t : List Run} (h : Alt (r :: t)) : Alt t := fun i x y hx hy => h (i + 1) x y hx hy
theorem addR_new {rs : List Run} {r : Run} (h : ∀ l, rs.getLast? = some l → l.1 ≠ r.1) : addR rs r = rs ++ [r] := by
  unfold addR
  cases e : rs.getLast? with
  | none =>
    rw [List.getLast?_eq_none_iff.mp e]
    rfl
  | some l => exact if_neg (h l e)
theorem addR_more (R : List Run) (l r : Run) (h : l.1 = r.1) : addR (R ++ [l]) r = R ++ [(r.1, l.2 + r.2)] := by
  unfold addR
  rw [List.getLast?_concat, List.dropLast_concat]
  exact if_pos h
theorem join_alt : ∀ (cs rs : List Run), Alt cs → (∀ l c, rs.getLast? = some l → cs.head? = some c → l.1 ≠ c.1) → joinR rs cs = rs ++ cs
  | [], rs, _, _ => by
    rw [List.append_nil]
    rfl
  | c :: t, rs, a, h => by
    show joinR (addR rs c) t = rs ++ c :: t
    rw [addR_new fun l hl => h l c hl rfl, join_alt t (rs ++ [c]) a.tail (fun l d hl hd => ?_), List.append_assoc]
    · rfl
    · rw [List.getLast?_concat] at hl
      cases hl
      cases t with
      | nil => cases hd
      | cons e u =>
        cases hd
        exact a 0 _ _ rfl rfl
theorem join_more (R : List Run) (l c : Run) (t : List Run) (a : Alt (c :: t)) (h : l.1 = c.1) : joinR (R ++ [l]) (c :: t) = R ++ [(c.1, l.2 + c.2)] ++ t := by
  show joinR (addR (R ++ [l]) c) t = _
  rw [addR_more R l c h, join_alt t _ a.tail (fun l' d hl hd => ?_)]
  rw [List.getLast?_concat] at hl
  cases hl
  cases t with
  | nil => cases hd
  | cons e u =>
    cases hd
    exact a 0 c _ rfl rfl
/-! ### items and runs -/
theorem run_more : ∀ (n : Nat) (R : List Run) (k : Str) (c : Int), (List.replicate n k).foldl (fun rs k => addR rs (k, 1)) (R ++ [(k, c)]) = R ++ [(k, c + (n : Int))]
  | 0, R, k, c => by
    rw [show c + ((0 : Nat) : Int) = c by omega]
    rfl
  | n + 1, R, k, c => by
    show (List.replicate n k).foldl (fun rs k => addR rs (k, 1)) (addR (R ++ [(k, c)]) (k, 1)) = _
    rw [addR_more R (k, c) (k, 1) rfl, run_more n R k (c + 1), show c + 1 + (n : Int) = c + ((n + 1 : Nat) : Int) by omega]
theorem run_one (n : Nat) (rs : List Run) (k : Str) (h : ∀ l, rs.getLast? = some l → l.1 ≠ k) : (List.replicate (n + 1) k).foldl (fun rs k => addR rs (k, 1)) rs = rs ++ [(k, (n : Int) + 1)] := by
  show (List.replicate n k).foldl (fun rs k => addR rs (k, 1)) (addR rs (k, 1)) = _
  rw [addR_new (r := (k, 1)) h, run_more n rs k 1, show (1 : Int) + (n : Int) = (n : Int) + 1 by omega]
theorem run_items : ∀ (rs R : List Run), Alt rs → (∀ r ∈ rs, 1 ≤ r.2) → (∀ l c, R.getLast? = some l → rs.head? = some c → l.1 ≠ c.1) → (itR rs).foldl (fun rs k => addR rs (k, 1)) R = R ++ rs
  | [], R, _, _, _ => by
    rw [List.append_nil]
    rfl
  | r :: t, R, a, p, h => by
    have c1 := p r (List.mem_cons_self ..)
    obtain ⟨n, hn⟩ : ∃ n : Nat, r.2.toNat = n + 1 := ⟨r.2.toNat - 1, by omega⟩
    have e : itR (r :: t) = List.replicate r.2.toNat r.1 ++ itR t := rfl
    rw [e, List.foldl_append, hn, run_one n R r.1 (fun l hl => h l r hl rfl), show (n : Int) + 1 = r.2 by omega, run_items t (R ++ [(r.1, r.2)]) a.tail (fun x hx => p x (List.mem_cons_of_mem _ hx)) (fun l d hl hd => ?_), List.append_assoc]
    · rfl
    · rw [List.getLast?_concat] at hl
      cases hl
      cases t with
      | nil => cases hd
      | cons e u =>
        cases hd
        exact a 0 _ _ rfl rfl
theorem run_it {rs : List Run} (a : Alt rs) (p : ∀ r ∈ rs, 1 ≤ r.2) : runR (itR rs) = rs := by
  have := run_items rs [] a p (fun l c hl => by cases hl)
  rw [List.nil_append] at this
  exact this
theorem it_one (k : Str) (c : Int) : itR [(k, c)] = List.replicate c.toNat k := by
  show List.replicate c.toNat k ++ [] = _
  rw [List.append_nil]
theorem it_add (rs : List Run) (k : Str) (p : ∀ r ∈ rs, 1 ≤ r.2) : itR (addR rs (k, 1)) = itR rs ++ [k] := by
  rcases List.eq_nil_or_concat rs with e0 | ⟨R0, l, e0⟩
  · subst e0
    rfl
  · rw [List.concat_eq_append] at e0
    subst e0
    have c1 := p l (List.mem_append.mpr (.inr (List.mem_singleton.mpr rfl)))
    by_cases h : l.1 = k
    · rw [addR_more R0 l (k, 1) h, it_app, it_app, List.append_assoc, it_one]
      congr 1
      have e : itR [l] = List.replicate l.2.toNat l.1 := it_one l.1 l.2
      show List.replicate (l.2 + 1).toNat k = itR [l] ++ [k]
      rw [e, h, show (l.2 + 1).toNat = l.2.toNat + 1 by omega, List.replicate_succ']
    · rw [addR_new (fun l' hl => by rw [List.getLast?_concat] at hl; cases hl; exact h), it_app]
      rfl
/-- what holds of the runs of some kinds -/
structure RunsOf (rs : List Run) (ks : List Str) : Prop where
  it : itR rs = ks
  pos : ∀ r ∈ rs, 1 ≤ r.2
  mem : ∀ r ∈ rs, r.1 ∈ ks
  alt : Alt rs
theorem runs_snoc {rs : List Run} {ks : List Str} {k : Str} (h : RunsOf rs ks) : RunsOf (addR rs (k, 1)) (ks ++ [k]) := by
  obtain ⟨i, p, m, a⟩ := h
  refine ⟨by rw [it_add rs k p, i], ?_, ?_, ?_⟩
  all_goals
    rcases List.eq_nil_or_concat rs with e0 | ⟨R0, l, e0⟩
  · subst e0
    intro r hr
    rw [List.mem_singleton.mp (show r ∈ [(k, (1 : Int))] from hr)]
    exact Int.le_refl 1
  · rw [List.concat_eq_append] at e0
    subst e0
    have c1 := p l (List.mem_append.mpr (.inr (List.mem_singleton.mpr rfl)))
    intro r hr
    by_cases h : l.1 = k
    · rw [addR_more R0 l (k, 1) h] at hr
      rcases List.mem_append.mp hr with z | z
      · exact p r (List.mem_append.mpr (.inl z))
      · rw [List.mem_singleton.mp z]
        show 1 ≤ l.2 + 1
        omega
    · rw [addR_new (fun l' hl => by rw [List.getLast?_concat] at hl; cases hl; exact h)] at hr
      rcases List.mem_append.mp hr with z | z
      · exact p r z
      · rw [List.mem_singleton.mp z]
        exact Int.le_refl 1
  · subst e0
    intro r hr
    rw [List.mem_singleton.mp (show r ∈ [(k, (1 : Int))] from hr)]
    exact List.mem_append.mpr (.inr (List.mem_singleton.mpr rfl))
  · rw [List.concat_eq_append] at e0
    subst e0
    intro r hr
    by_cases h : l.1 = k
    · rw [addR_more R0 l (k, 1) h] at hr
      rcases List.mem_append.mp hr with z | z
      · exact List.mem_append.mpr (.inl (m r (List.mem_append.mpr (.inl z))))
      · rw [List.mem_singleton.mp z]
        exact List.mem_append.mpr (.inr (List.mem_singleton.mpr rfl))
    · rw [addR_new (fun l' hl => by rw [List.getLast?_concat] at hl; cases hl; exact h)] at hr
      rcases List.mem_append.mp hr with z | z
      · exact List.mem_append.mpr (.inl (m r z))
      · rw [List.mem_singleton.mp z]
        exact List.mem_append.mpr (.inr (List.mem_singleton.mpr rfl))
  · subst e0
    intro i x y hx hy
    cases hy
  · rw [List.concat_eq_append] at e0
    subst e0
    by_cases h : l.1 = k
    · rw [addR_more R0 l (k, 1) h]
      have e : (R0 ++ [((k, (1 : Int)).1, l.2 + (k, (1 : Int)).2)]).map (·.1) = (R0 ++ [l]).map (·.1) := by
        rw [List.map_append, List.map_append]
        show R0.map (·.1) ++ [k] = R0.map (·.1) ++ [l.1]
        rw [h]
      intro i x y hx hy
      have ex := congrArg (fun z : List Str => z[i]?) e
      have ey := congrArg (fun z : List Str => z[i + 1]?) e
      simp only [List.getElem?_map] at ex ey
      rw [hx] at ex
      rw [hy] at ey
      cases gx : (R0 ++ [l])[i]? with
      | none => rw [gx] at ex; cases ex
      | some x' =>
        cases gy : (R0 ++ [l])[i + 1]? with
        | none => rw [gy] at ey; cases ey
        | some y' =>
          rw [gx] at ex
          rw [gy] at ey
          have ex : x.1 = x'.1 := Option.some.inj ex
          have ey : y.1 = y'.1 := Option.some.inj ey
          rw [ex, ey]
          exact a i x' y' gx gy
    · rw [addR_new (fun l' hl => by rw [List.getLast?_concat] at hl; cases hl; exact h)]
      refine alt_snoc a fun y hy => ?_
      rw [← List.getLast?_eq_getElem?, List.getLast?_concat] at hy
      cases hy
      exact h
theorem runs_of_all : ∀ (ks l : List Str) (R : List Run), RunsOf R l → RunsOf (ks.foldl (fun rs k => addR rs (k, 1)) R) (l ++ ks)
  | [], l, R, h => by
    rw [List.append_nil]
    exact h
  | k :: t, l, R, h => by
    have := runs_of_all t (l ++ [k]) _ (runs_snoc (k := k) h)
    rw [List.append_assoc] at this
    exact this
theorem runs_all (ks : List Str) : RunsOf (runR ks) ks := runs_of_all ks [] [] ⟨rfl, (fun r h => by cases h), (fun r h => by cases h), fun i x y hx => by simp at hx⟩
theorem len_mem {rs : List Run} (p : ∀ r ∈ rs, 1 ≤ r.2) : ∀ r ∈ rs, r.2 ≤ lenR rs := by
  induction rs with
  | nil => intro r h; cases h
  | cons x t ih =>
    intro r hr
    have c1 := p x (List.mem_cons_self ..)
    have ih' := ih fun y hy => p y (List.mem_cons_of_mem _ hy)
    rw [lenR_cons]
    have nn : 0 ≤ lenR t := by
      have := len_it t fun y hy => p y (List.mem_cons_of_mem _ hy)
      omega
    rcases List.mem_cons.mp hr with e | e
    · rw [e]
      omega
    · have := ih' r e
      omega
theorem seq_runs {ks : List Str} (l : ks.length ≤ 400) (ok : ∀ k ∈ ks, KindOk k) : SeqOk (runR ks) ∧ lenR (runR ks) ≤ 400 ∧ itR (runR ks) = ks := by
  obtain ⟨i, p, m, a⟩ := runs_all ks
  have ll := len_it (runR ks) p
  rw [i] at ll
  refine ⟨⟨?_, fun r hr => ⟨ok _ (m r hr), p r hr, ?_⟩, a⟩, by omega, i⟩
  · exact Nat.le_trans (runR_len ks) l
  · have := len_mem p r hr
    omega
end UP

set_option Elab.async false
set_option linter.all false
set_option maxRecDepth 100000
set_option maxHeartbeats 4000000
set_option pp.maxSteps 300
namespace UP
open PySem PySem.Spec PyProof.Rows L2
/-! ### texts -/
theorem sIx_m1 (n d : Nat) : HT.sIx (n + 1) d (some (-1)) = n := by
  show (if (-1 : Int) < 0 then ((-1 : Int) + ((n + 1 : Nat) : Int)).toNat else min (-1 : Int).toNat (n + 1)) = n
  rw [if_pos (by decide)]
  omega
theorem cut_head {a z : Str} {c : Nat} (h : TL.tl z = TL.tl a ++ [c]) : cutS z none (some (-1)) = a := by
  have hl : z.length = a.length + 1 := by
    rw [TL.len_tl, h, List.length_append, ← TL.len_tl]
    rfl
  refine TL.ext_tl ?_
  unfold cutS
  rw [hl, sIx_m1, HT.sIx_none]
  show ((TL.tl z).drop 0).take (a.length - 0) = _
  rw [h, List.drop_zero, Nat.sub_zero, TL.len_tl, List.take_left]
theorem cut_tail {a z : Str} {c : Nat} (h : TL.tl z = TL.tl a ++ [c]) : cutS z (some (-1)) none = ⟨#[c]⟩ := by
  have hl : z.length = a.length + 1 := by
    rw [TL.len_tl, h, List.length_append, ← TL.len_tl]
    rfl
  refine TL.ext_tl ?_
  unfold cutS
  rw [hl, sIx_m1, HT.sIx_none]
  show ((TL.tl z).drop a.length).take (a.length + 1 - a.length) = [c]
  rw [h, TL.len_tl, List.drop_left, show (TL.tl a).length + 1 - (TL.tl a).length = 1 by omega]
  rfl
theorem at_tail {a z : Str} {c : Nat} (h : TL.tl z = TL.tl a ++ [c]) : atI z.cps.toList (-1) = some c := by
  show atI (TL.tl z) (-1) = some c
  rw [h]
  exact atI_last _ _
theorem tl_sp : TL.tl (" " : Str) = [32] := by decide +kernel
theorem join_len (ws : List Str) : (Txt.join " " ws).length ≤ (ws.map (·.length)).sum + ws.length := by
  rw [TL.len_tl, TL.join_eq, TL.tl_join, tl_sp]
  have : ∀ l : List Str, (TL.joinL [32] (l.map TL.tl)).length ≤ (l.map (·.length)).sum + l.length := by
    intro l
    induction l with
    | nil => exact Nat.zero_le _
    | cons p t ih =>
      cases t with
      | nil =>
        show (TL.tl p).length ≤ p.length + 0 + 1
        rw [← TL.len_tl]
        omega
      | cons q r =>
        show (TL.tl p ++ ([32] ++ TL.joinL [32] ((q :: r).map TL.tl))).length ≤ (p.length + ((q :: r).map (·.length)).sum) + ((q :: r).length + 1)
        rw [List.length_append, List.length_append, ← TL.len_tl]
        show p.length + (1 + _) ≤ _
        omega
  exact this ws
theorem sum_le {ws : List Str} {n : Nat} (h : ∀ w ∈ ws, w.length ≤ n) : (ws.map (·.length)).sum ≤ n * ws.length := by
  induction ws with
  | nil => exact Nat.zero_le _
  | cons p t ih =>
    have h1 := h p (List.mem_cons_self ..)
    have h2 := ih fun w hw => h w (List.mem_cons_of_mem _ hw)
    show p.length + (t.map (·.length)).sum ≤ n * (t.length + 1)
    rw [Nat.mul_succ]
    omega
/-- words without a blank are found again -/
theorem split_words {ws : List Str} (ne : ws ≠ []) (h : ∀ w ∈ ws, 32 ∉ TL.tl w) : Txt.split (Txt.join " " ws) " " = ws := TL.split_join tl_sp (by decide +kernel) ne h
theorem join_ne {ws : List Str} (ne : ws ≠ []) (h : ∀ w ∈ ws, TL.tl w ≠ []) : Txt.join " " ws ≠ "" := fun e => by
  have e2 := congrArg TL.tl e
  rw [TL.join_eq, TL.tl_join, show TL.tl ("" : Str) = [] by decide +kernel] at e2
  cases ws with
  | nil => exact ne rfl
  | cons p t =>
    have hp := h p (List.mem_cons_self ..)
    cases t with
    | nil => exact hp e2
    | cons q r =>
      have e2 : TL.tl p ++ (TL.tl (" " : Str) ++ TL.joinL (TL.tl (" " : Str)) ((q :: r).map TL.tl)) = [] := e2
      exact hp (List.append_eq_nil_iff.mp e2).1
theorem join_nil : Txt.join " " [] = "" := by
  refine TL.ext_tl ?_
  rw [TL.join_eq, TL.tl_join]
  exact (show TL.tl ("" : Str) = [] by decide +kernel).symm
theorem kind_tl {k : Str} (h : KindOk k) {c : Nat} (hc : c ∈ TL.tl k) : 97 ≤ c ∧ c ≤ 122 := h.2.2 c hc
/-! ### entries of records -/
abbrev En := Option Str × Bool
def actS (b : Bool) : Str := if b then "waits" else "leaves"
def sgnS (b : Bool) : Str := if b then "+" else "-"
def sgnC (b : Bool) : Nat := if b then 43 else 45
def kdS (k : Option Str) : Str := k.getD "?"
def koV : Option Str → V
  | none => .non
  | some s => .str s
def wdS (e : En) : Str := kdS e.1 ++ sgnS e.2
def EnOk (e : En) : Prop := ∀ k, e.1 = some k → KindOk k
theorem tl_sgn (b : Bool) : TL.tl (sgnS b) = [sgnC b] := by cases b <;> decide +kernel
theorem tl_q : TL.tl ("?" : Str) = [63] := by decide +kernel
theorem sgn_eq (b : Bool) : (⟨#[sgnC b]⟩ : Str) = sgnS b := TL.ext_tl (tl_sgn b).symm
theorem tl_wd (e : En) : TL.tl (wdS e) = TL.tl (kdS e.1) ++ [sgnC e.2] := by
  unfold wdS
  rw [TL.tl_append, tl_sgn]
theorem kd_free {e : En} (h : EnOk e) : 32 ∉ TL.tl (kdS e.1) := fun hm => by
  obtain ⟨k, b⟩ := e
  cases k with
  | none =>
    have hm : 32 ∈ TL.tl ("?" : Str) := hm
    rw [tl_q] at hm
    exact absurd hm (by decide)
  | some k =>
    have := kind_tl (h k rfl) hm
    omega
theorem wd_free {e : En} (h : EnOk e) : 32 ∉ TL.tl (wdS e) := fun hm => by
  rw [tl_wd] at hm
  rcases List.mem_append.mp hm with z | z
  · exact kd_free h z
  · have := List.mem_singleton.mp z
    obtain ⟨k, b⟩ := e
    cases b
    · exact absurd (show (32 : Nat) = 45 from this) (by decide)
    · exact absurd (show (32 : Nat) = 43 from this) (by decide)
theorem wd_ne (e : En) : TL.tl (wdS e) ≠ [] := by
  rw [tl_wd]
  simp
theorem kd_len {e : En} (h : EnOk e) : (kdS e.1).length ≤ 8 := by
  obtain ⟨k, b⟩ := e
  cases k with
  | none =>
    show ("?" : Str).length ≤ 8
    decide +kernel
  | some k => exact (h k rfl).2.1
theorem sgn_len (b : Bool) : (sgnS b).length = 1 := by
  rw [TL.len_tl, tl_sgn]
  rfl
theorem wd_len {e : En} (h : EnOk e) : (wdS e).length ≤ 9 := by
  have := kd_len h
  rw [TL.len_tl, tl_wd, List.length_append, ← TL.len_tl]
  show (kdS e.1).length + 1 ≤ 9
  omega
theorem kd_q {e : En} (h : EnOk e) : kdS e.1 = "?" ↔ e.1 = none := by
  obtain ⟨k, b⟩ := e
  cases k with
  | none => exact ⟨fun _ => rfl, fun _ => rfl⟩
  | some k =>
    refine ⟨fun z => ?_, fun z => by cases z⟩
    have z : k = "?" := z
    have h := h k rfl
    rw [z] at h
    exact absurd h (by decide +kernel)
/-- a record's text -/
def rtS (es : List En) : Str := Txt.join " " (es.map wdS)
theorem rt_len {es : List En} (h : ∀ e ∈ es, EnOk e) (l : es.length ≤ 400) : (rtS es).length ≤ 4000 := by
  have h1 := join_len (es.map wdS)
  have h2 := sum_le (ws := es.map wdS) (n := 9) (fun w hw => by
    obtain ⟨e, he, rfl⟩ := List.mem_map.mp hw
    exact wd_len (h e he))
  rw [List.length_map] at h1 h2
  show (Txt.join " " (es.map wdS)).length ≤ 4000
  omega
def EnV (H : Hp) (v : V) (e : En) : Prop := ∃ t, v = .ref t ∧ H t = some (.tup [koV e.1, .str (actS e.2)])
def EnG (H : Hp) (v : V) (e : En) : Prop := ∃ t, v = .ref t ∧ Sq2 H t [koV e.1, .str (actS e.2)]
def RecG (H : Hp) (v : V) (es : List En) : Prop := ∃ a xs, v = .ref a ∧ Sq2 H a xs ∧ Paired (EnG H) xs es
def Rec (H : Hp) (a : Addr) (es : List En) : Prop := ∃ xs, H a = some (.lst xs) ∧ Paired (EnV H) xs es
theorem EnV.tk {H H' : Hp} {v : V} {e : En} (h : EnV H v e) (k : ∀ t xs, H t = some (.tup xs) → H' t = some (.tup xs)) : EnV H' v e := by
  obtain ⟨t, rfl, ht⟩ := h
  exact ⟨t, rfl, k _ _ ht⟩
theorem EnV.same {H H' : Hp} {v : V} {e : En} (s : Same H H') (h : EnV H v e) : EnV H' v e := h.tk fun _ _ e => s _ _ e
theorem EnG.same {H H' : Hp} {v : V} {e : En} (s : Same H H') (h : EnG H v e) : EnG H' v e := by
  obtain ⟨t, rfl, ht⟩ := h
  exact ⟨t, rfl, ht.same s⟩
theorem RecG.same {H H' : Hp} {v : V} {es : List En} (s : Same H H') (h : RecG H v es) : RecG H' v es := by
  obtain ⟨a, xs, rfl, hx, hp⟩ := h
  exact ⟨a, xs, rfl, hx.same s, Paired.imp (fun _ _ z => EnG.same s z) hp⟩
theorem EnV.dress {H : Hp} {v : V} {e : En} (h : EnV H v e) : EnG H v e := by
  obtain ⟨t, rfl, ht⟩ := h
  exact ⟨t, rfl, .inr ht⟩
theorem Rec.dress {H : Hp} {a : Addr} {es : List En} (h : Rec H a es) : RecG H (.ref a) es := by
  obtain ⟨xs, hx, hp⟩ := h
  exact ⟨a, xs, rfl, .inl hx, Paired.imp (fun _ _ => EnV.dress) hp⟩
theorem Rec.same {H H' : Hp} {a : Addr} {es : List En} (s : Same H H') (h : Rec H a es) : Rec H' a es := by
  obtain ⟨xs, hx, hp⟩ := h
  exact ⟨xs, s _ _ hx, Paired.imp (fun _ _ z => EnV.same s z) hp⟩
/-! ### the written dicts -/
structure TexT (K : PySem.W.Frag) (w : World) (mg : Str → Option Value) (aM aA : Addr) : Prop where
  a_MARKS : mg "MARKS" = some (.ref aM)
  m1 : KDct K w aM "waits" (.str "+")
  m2 : KDct K w aM "leaves" (.str "-")
  a_ACTIONS : mg "ACTIONS" = some (.ref aA)
  a1 : KDct K w aA "+" (.str "waits")
  a2 : KDct K w aA "-" (.str "leaves")
section
variable {X : Cx} {K : PySem.W.Frag} {w : World}
theorem ix_kdictK (h : X.K = K) (h2 : X.w = w) : IxR X (rIxD K w) := by
  subst h
  subst h2
  exact ix_kdict
end
theorem TexT.mk_ {K : PySem.W.Frag} {w : World} {mg : Str → Option Value} {aM aA : Addr} (T : TexT K w mg aM aA) (b : Bool) : KDct K w aM (actS b) (.str (sgnS b)) := by
  cases b
  · exact T.m2
  · exact T.m1
theorem TexT.ac_ {K : PySem.W.Frag} {w : World} {mg : Str → Option Value} {aM aA : Addr} (T : TexT K w mg aM aA) (b : Bool) : KDct K w aA (sgnS b) (.str (actS b)) := by
  cases b
  · exact T.a2
  · exact T.a1
theorem act_in (b : Bool) : inV (.str (actS b)) [.str "waits", .str "leaves"] = true := by cases b <;> decide +kernel
theorem sgn_in (b : Bool) : inV (.str (sgnS b)) [.str "+", .str "-"] = true := by cases b <;> decide +kernel
end UP

set_option Elab.async false
set_option linter.all false
set_option maxRecDepth 100000
set_option maxHeartbeats 4000000
set_option pp.maxSteps 300
namespace UP
open PySem PySem.Spec PyProof.Rows L2
section
variable {P : Program} {w : World} {K : PySem.W.Frag} {mg : Str → Option Value} {base : Heap} {aM aA : Addr}
end
end UP

set_option Elab.async false
set_option linter.all false
set_option maxRecDepth 100000
set_option maxHeartbeats 4000000
set_option pp.maxSteps 300
namespace UP
open PySem PySem.Spec PyProof.Rows L2
/-! ### lists or tuples, and the bag -/
theorem Sq2.bag {H H' : Hp} {pb cl a : Addr} {n : Nat} {xs : List V} (z : Bag H pb cl n) (b : But pb H H') (na : a ≠ pb) (h : Sq2 H a xs) : Sq2 H' a xs := h.elim (fun e => .inl (b _ _ na e)) (fun e => .inr (b _ _ na e))
theorem en_list {k : Option Str} {x : Str} {cl : Addr} {a b c d : Int} : HO.lst [koV k, .str x] ≠ .lst [.ref cl, .int a, .int b, .int c, .int d] := by
  intro q
  have := congrArg (fun o => match o with | HO.lst l => l.length | _ => 0) q
  exact absurd (show (2 : Nat) = 5 from this) (by decide)
theorem EnG.bag {H H' : Hp} {pb cl : Addr} {n : Nat} {v : V} {e : En} (z : Bag H pb cl n) (b : But pb H H') (h : EnG H v e) : EnG H' v e := by
  obtain ⟨t, rfl, ht⟩ := h
  obtain ⟨q, h1, _⟩ := id z
  refine ⟨t, rfl, ht.bag z b ?_⟩
  rcases ht with e | e
  · exact ne_of e h1 en_list
  · exact ne_of e h1 (by intro y; cases y)
theorem EnV.bag {H H' : Hp} {pb cl : Addr} {n : Nat} {v : V} {e : En} (z : Bag H pb cl n) (b : But pb H H') (h : EnV H v e) : EnV H' v e := by
  obtain ⟨q, h1, _⟩ := id z
  exact h.tk fun t xs e => b _ _ (ne_of e h1 (by intro y; cases y)) e
def octo : List (Option Str) := [none, some "a", some "b", some "abcdefgh", some "zz", some "waits", some "leaves", some "x"]
theorem octo_ok : ∀ o ∈ octo, ∀ k, o = some k → KindOk k := by
  intro o ho k e
  subst e
  simp only [octo, List.mem_cons, List.not_mem_nil, or_false, Option.some.injEq, reduceCtorEq, false_or] at ho
  rcases ho with e | e | e | e | e | e | e <;> (subst e; decide +kernel)
section
variable {P : Program} {w : World} {K : PySem.W.Frag} {mg : Str → Option Value} {base : Heap}
end
/-! ### records as data -/
def koD : Option Str → PyData
  | none => .none
  | some s => .str s
def dEn (e : En) : PyData := .tuple [koD e.1, .str (actS e.2)]
theorem act_ok (b : Bool) : KindOk (actS b) := by cases b <;> decide +kernel
theorem nice_ko {k : Option Str} (h : ∀ s, k = some s → KindOk s) : Nice 8 0 (koD k) := by
  cases k with
  | none => exact nice_none.mono (by decide) (Nat.le_refl _)
  | some s => exact nice_str (h s rfl)
theorem dp_ko {K : PySem.W.Frag} {H : Hp} (k : Option Str) : Dp K H (koV k) (koD k) := by
  cases k with
  | none => exact .non
  | some s => exact .str s
theorem nice_en {e : En} (h : EnOk e) : Nice 18 1 (dEn e) := by
  have := nice_tup (w := 8) (n := 0) (ds := [koD e.1, .str (actS e.2)]) fun d hd => by
    rcases List.mem_cons.mp hd with z | z
    · rw [z]
      exact nice_ko h
    · rw [List.mem_singleton.mp z]
      exact nice_str (act_ok e.2)
  exact this
theorem nice_rec {es : List En} (h : ∀ e ∈ es, EnOk e) (l : es.length ≤ 400) : Nice 7600 2 (.list (es.map dEn)) := by
  have := nice_list (w := 18) (n := 1) (ds := es.map dEn) fun d hd => by
    obtain ⟨e, he, rfl⟩ := List.mem_map.mp hd
    exact nice_en (h e he)
  exact this.mono (by rw [List.length_map]; omega) (Nat.le_refl _)
theorem dp_en {K : PySem.W.Frag} {H : Hp} {v : V} {e : En} (h : EnV H v e) : Dp K H v (dEn e) := by
  obtain ⟨t, rfl, ht⟩ := h
  exact .tup (.of ht) (.cons (dp_ko _) (.cons (.str _) .nil))
theorem dp_ens {K : PySem.W.Frag} {H : Hp} : ∀ {xs : List V} {es : List En}, Paired (EnV H) xs es → DpAll K H xs (es.map dEn)
  | [], [], _ => .nil
  | _ :: _, _ :: _, .cons h t => .cons (dp_en h) (dp_ens t)
theorem dp_rec {K : PySem.W.Frag} {H : Hp} {a : Addr} {es : List En} (h : Rec H a es) : Dp K H (.ref a) (.list (es.map dEn)) := by
  obtain ⟨xs, hx, hp⟩ := h
  exact .lst (.of hx) (dp_ens hp)
theorem dps_rec {K : PySem.W.Frag} {H : Hp} {v : V} {es : List En} (h : RecG H v es) (ok : ∀ e ∈ es, EnOk e) (l : es.length ≤ 400) : ∃ d, DpS K H v d ∧ Nice 7600 2 d := by
  obtain ⟨a, xs, rfl, hx, hp⟩ := h
  have lx : xs.length = es.length := Paired.len hp
  obtain ⟨d, h1, h2⟩ := dps_seq (K := K) (w := 18) (n := 1) hx fun x hx => by
    obtain ⟨i, hi, e⟩ := List.mem_iff_getElem.mp hx
    obtain ⟨r, er, t, et, hr⟩ := Paired.at hp (List.getElem?_eq_getElem hi)
    rw [e] at et
    subst et
    have okr := ok r (List.mem_of_getElem? er)
    have := dps_seq (K := K) (w := 8) (n := 0) hr fun x hx => by
      rcases List.mem_cons.mp hx with e | e
      · rw [e]
        exact ⟨koD r.1, fun _ _ => dp_ko _, nice_ko okr⟩
      · rw [List.mem_singleton.mp e]
        exact ⟨.str (actS r.2), fun _ _ => .str _, nice_str (act_ok r.2)⟩
    exact this
  exact ⟨d, h1, h2.mono (by rw [lx]; omega) (Nat.le_refl _)⟩
theorem eqv_nilR (es : List En) : PyData.eqv (.list (es.map dEn)) (.list []) = es.isEmpty := by
  cases es with
  | nil => simp [PyData.eqv, PyData.eqvAll]
  | cons x t => simp [PyData.eqv, PyData.eqvAll]
end UP

set_option Elab.async false
set_option linter.all false
set_option maxRecDepth 100000
set_option maxHeartbeats 4000000
set_option pp.maxSteps 300
namespace UP
open PySem PySem.Spec PyProof.Rows L2
/-! ### words of runs -/
def nS (n : Int) : Str := Str.ofString (toString n)
def rwS (r : Run) : Str := if r.2 = 1 then r.1 else r.1 ++ "*" ++ nS r.2
def sqS (rs : List Run) : Str := Txt.join " " (rs.map rwS)
def stS : Option Run → Str
  | none => "-"
  | some r => rwS r
theorem tl_star : TL.tl ("*" : Str) = [42] := by decide +kernel
theorem tl_nS {n : Int} (h : 0 ≤ n) : TL.tl (nS n) = TL.numL n.toNat := by
  obtain ⟨k, rfl⟩ : ∃ k : Nat, n = k := ⟨n.toNat, by omega⟩
  rw [Int.toNat_natCast]
  exact TL.tl_num k
theorem nS_digits {n : Int} (h : 0 ≤ n) : ∀ c ∈ TL.tl (nS n), 48 ≤ c ∧ c ≤ 57 := fun c hc => by
  rw [tl_nS h] at hc
  by_cases a : c < 48 ∨ 57 < c
  · exact absurd hc (TL.numL_free a)
  · omega
theorem nS_ne {n : Int} (h : 0 ≤ n) : TL.tl (nS n) ≠ [] := by
  rw [tl_nS h]
  exact TL.numL_ne _
theorem nS_len {n : Int} (h : 0 ≤ n) (l : n < 10000000000000000000000000000000000000000) : (nS n).length ≤ 40 := by
  rw [TL.len_tl, tl_nS h]
  refine TL.numL_len (by decide) ?_
  have : (10 : Nat) ^ 40 = 10000000000000000000000000000000000000000 := by decide +kernel
  rw [this]
  omega
theorem tl_rw {r : Run} (h : r.2 ≠ 1) : TL.tl (rwS r) = TL.tl r.1 ++ [42] ++ TL.tl (nS r.2) := by
  unfold rwS
  rw [if_neg h, TL.tl_append, TL.tl_append, tl_star]
theorem tl_rw1 {r : Run} (h : r.2 = 1) : rwS r = r.1 := if_pos h
/-- a run whose word is read -/
def RwOk (r : Run) : Prop := KindOk r.1 ∧ 1 ≤ r.2 ∧ r.2 ≤ 1000000000000000000000000000000000000000
theorem RunOk.rw {r : Run} (h : RunOk r) : RwOk r := ⟨h.1, h.2.1, by have := h.2.2; omega⟩
theorem rw_free {r : Run} (h : RwOk r) {s : Nat} (hs : s < 42) : s ∉ TL.tl (rwS r) := fun hm => by
  by_cases c : r.2 = 1
  · rw [tl_rw1 c] at hm
    have := kind_tl h.1 hm
    omega
  · rw [tl_rw c] at hm
    rcases List.mem_append.mp hm with z | z
    · rcases List.mem_append.mp z with y | y
      · have := kind_tl h.1 y
        omega
      · have := List.mem_singleton.mp y
        omega
    · have := nS_digits (by have := h.2.1; omega) s z
      omega
theorem kind_ne {k : Str} (h : KindOk k) : TL.tl k ≠ [] := fun e => by
  have := h.1
  rw [TL.len_tl, e] at this
  exact absurd this (by decide)
theorem rw_ne {r : Run} (h : RwOk r) : TL.tl (rwS r) ≠ [] := by
  by_cases c : r.2 = 1
  · rw [tl_rw1 c]
    exact kind_ne h.1
  · rw [tl_rw c]
    intro e
    have := (List.append_eq_nil_iff.mp (List.append_eq_nil_iff.mp e).1).1
    exact kind_ne h.1 this
theorem rw_len {r : Run} (h : RwOk r) : (rwS r).length ≤ 49 := by
  have h1 := h.1.2.1
  by_cases c : r.2 = 1
  · rw [tl_rw1 c]
    omega
  · have h2 := nS_len (n := r.2) (by have := h.2.1; omega) (by have := h.2.2; omega)
    rw [TL.len_tl, tl_rw c, List.length_append, List.length_append, ← TL.len_tl, ← TL.len_tl]
    show r.1.length + 1 + _ ≤ 49
    omega
theorem sq_words {rs : List Run} (h : ∀ r ∈ rs, RwOk r) : ∀ x ∈ rs.map rwS, 32 ∉ TL.tl x ∧ TL.tl x ≠ [] := fun x hx => by
  obtain ⟨r, hr, rfl⟩ := List.mem_map.mp hx
  exact ⟨rw_free (h r hr) (by decide), rw_ne (h r hr)⟩
theorem sq_len {rs : List Run} (h : ∀ r ∈ rs, RwOk r) (l : rs.length ≤ 400) : (sqS rs).length ≤ 20000 := by
  have h1 := join_len (rs.map rwS)
  have h2 := sum_le (ws := rs.map rwS) (n := 49) (fun w hw => by
    obtain ⟨e, he, rfl⟩ := List.mem_map.mp hw
    exact rw_len (h e he))
  rw [List.length_map] at h1 h2
  show (Txt.join " " (rs.map rwS)).length ≤ 20000
  omega
/-- a word's three parts -/
def rwP (r : Run) : Str × Str × Str := if r.2 = 1 then (r.1, Str.empty, Str.empty) else (r.1, "*", nS r.2)
theorem rw_part {r : Run} (h : RwOk r) : Txt.partition (rwS r) "*" = rwP r := by
  have hf : 42 ∉ TL.tl r.1 := fun hm => by
    have := kind_tl h.1 hm
    omega
  unfold rwP
  by_cases c : r.2 = 1
  · rw [tl_rw1 c, if_pos c]
    exact TL.partition_none tl_star hf
  · unfold rwS
    rw [if_neg c, if_neg c]
    exact TL.partition_app tl_star hf
theorem empty_eq : (Str.empty : Str) = "" := by decide +kernel
theorem join_one (w : Str) : Txt.join " " [w] = w := by
  refine TL.ext_tl ?_
  rw [TL.join_eq, TL.tl_join]
  rfl
/-! ### a text several times -/
def repS (z : Str) (n : Int) : Str := ⟨(List.replicate n.toNat z.cps).foldl (· ++ ·) #[]⟩
theorem rep_size (a : Array Nat) : ∀ (n : Nat) (acc : Array Nat), ((List.replicate n a).foldl (· ++ ·) acc).size = acc.size + n * a.size
  | 0, acc => by simp
  | n + 1, acc => by
    rw [List.replicate_succ, List.foldl_cons, rep_size a n, Array.size_append, Nat.succ_mul]
    omega
section
variable {X : Cx}
theorem op_rep_str : OpR X (binaryOp .Mult) (fun x y H Q => ∃ (z : Str) (n : Int), x = .str z ∧ y = .int n ∧ 2 ≤ n ∧ n ≤ 1000 ∧ 1 ≤ z.length ∧ z.length ≤ 1000 ∧ Q (.str (repS z n)) H) := by
  intro pins s σ H x y v u Q I rx ry h
  obtain ⟨z, n, rfl, rfl, n2, n1, z1, z2, q⟩ := h
  obtain ⟨t, rfl⟩ := rx
  obtain ⟨t', rfl⟩ := ry
  have c0 : ¬ n < 1 := by omega
  have c1 : (n == 1 || z.length == 0) = false := by
    rw [Bool.or_eq_false_iff]
    exact ⟨beq_eq_false_iff_ne.mpr (by omega), beq_eq_false_iff_ne.mpr (by omega)⟩
  have big : z.length * n.toNat ≤ 1000000 := Nat.le_trans (Nat.mul_le_mul z2 (show n.toNat ≤ 1000 by omega)) (by decide)
  refine PySem.P.mul_str ?_ (fun _ _ => ?_) (fun _ _ => ?_) ?_
  · rw [decide_eq_false (by omega), decide_eq_false (by omega)]
    rfl
  · have h1 : (1000 : Int) ≤ (2 ^ 63 - 1) / n := (Int.le_ediv_iff_mul_le (by omega)).mpr (by omega)
    omega
  · exact PyProof.Rows.short24 (by omega)
  · rw [if_neg c0, if_neg (by rw [c1]; decide)]
    refine ⟨?_, .str (repS z n), H, I.tok _, ⟨_, rfl⟩, q⟩
    refine Nat.le_of_lt (small ?_)
    show (repS z n).cps.size ≤ _
    unfold repS
    rw [rep_size]
    show 0 + n.toNat * z.length ≤ _
    rw [Nat.mul_comm]
    omega
end
end UP

set_option Elab.async false
set_option linter.all false
set_option maxRecDepth 100000
set_option maxHeartbeats 4000000
set_option pp.maxSteps 300
namespace UP
open PySem PySem.Spec PyProof.Rows L2
theorem str_app_len (a b : Str) : (a ++ b).length = a.length + b.length := by
  rw [TL.len_tl, TL.tl_append, List.length_append, ← TL.len_tl, ← TL.len_tl]
theorem star_len : ("*" : Str).length = 1 := by decide +kernel
theorem c48 : (("0" : Str).cps.getD 0 0 : Nat) = 48 := by decide +kernel
def dgF (l : List Nat) : Int := l.foldl (fun (t : Int) (c : Nat) => t * 10 + ((c : Int) - 48)) 0
theorem dgF_snoc (l : List Nat) (c : Nat) : dgF (l ++ [c]) = dgF l * 10 + ((c : Int) - 48) := by
  unfold dgF
  rw [List.foldl_append]
  rfl
theorem dgF_nS {n : Int} (h : 0 ≤ n) : dgF (TL.tl (nS n)) = n := by
  rw [tl_nS h]
  have := TL.fold_num n.toNat
  unfold dgF
  rw [this]
  omega
theorem log_bd40 {i : Int} (h0 : 0 ≤ i) (h1 : i ≤ 10000000000000000000000000000000000000000) : i.natAbs.log2 < 1920 := by
  have h : i.natAbs < 2 ^ 1920 := Nat.lt_of_le_of_lt (m := 10000000000000000000000000000000000000000) (by omega) (by decide +kernel)
  by_cases c : i.natAbs = 0
  · rw [c]
    decide
  · exact (Nat.log2_lt c).mpr h
theorem nI {r k : Int} (h : r ≠ k) : decide (V.int r = V.int k) = false := decide_eq_false (fun e => h (V.int.inj e))
section
variable {P : Program} {w : World} {K : PySem.W.Frag} {mg : Str → Option Value} {base : Heap}
/-! is_digits: slots 0:word 1:letter -/
abbrev s_is_digits : Stmt := topS 43
theorem sc_is_digits : FnScope ["word", "letter"] ["word"] (defScope s_is_digits) := ⟨rfl, rfl, rfl, by decide +kernel, rfl, by decide +kernel, by decide +kernel⟩
def sp_is_digits : Sp := fun vs H Q _ => ∃ z : Str, vs = [.str z] ∧ TL.tl z ≠ [] ∧ z.length ≤ 100000 ∧ (∀ c ∈ TL.tl z, 48 ≤ c ∧ c ≤ 57) ∧ ∀ H', Same H H' → Q (.bl true) H'
theorem ok_is_digits (D : Df K mg "is_digits" s_is_digits) (T : Tx mg) : Has P w K mg base 1 "is_digits" ["word"] sp_is_digits := by
  refine has_of D sc_is_digits (fun _ _ _ _ _ _ us hl => match us, hl with | [_], _ => rfl) (fun vs H Q E h => ?_) (fun f cdv A outer s H vs Q E hr h => ?_)
  · obtain ⟨n, rfl, _⟩ := h
    rfl
  · obtain ⟨z, rfl, ne, lz, dg, q⟩ := h
    refine ⟨_, (pss_one (ps_ret (pe_and (pe_cmpR op_ne (pv 0) pe_str (nomark _)) (pe_one (pe_callB (cr_all rfl) (by rfl) T.n_all (by decide +kernel) (pa_cons (pe_lc (own := [("letter", 1)]) rfl sc_is_digits.nd (pi_str (pv 0)) (blkOk_by (N := ["word", "letter"]) (sc := defScope s_is_digits) (by decide +kernel)) (fun _ _ _ _ _ => (pg_name (i := 1) sc_is_digits.nd rfl (by first | exact Or.inl rfl | exact Or.inr rfl))) (fun _ _ _ _ _ => pts_nil) (fun _ _ _ _ _ => (pe_chain op_le_str op_le_str pe_str (pv 1) pe_str))) pa_nil)))))), ?_⟩
    have nez : z ≠ "" := fun e => ne (by rw [e]; decide +kernel)
    refine ⟨_, rfl, rfl, true, congrArg V.bl (show (!decide (V.str z = V.str "")) = true by rw [decide_eq_false (fun e => nez (V.str.inj e))]; rfl), iteT ?_⟩
    refine ⟨_, rfl, z, rfl, fun L nL => lc_gen (n := z.cps.size) (fun i H' => Same H H' ∧ H' L = some (.lst ((List.replicate i true).map V.bl))) ⟨same_upd nL, upd_same⟩ (fun i H' hi _ => hi) (fun H' _ => Nat.le_refl _) (fun i x H1 H2 hi p y => ?_) (fun H' p => ?_)⟩
    · obtain ⟨rfl, c, ec, rfl⟩ := y
      obtain ⟨sm, hL⟩ := p
      have hc : 48 ≤ c ∧ c ≤ 57 := dg c (by
        have := Array.mem_of_getElem? ec
        show c ∈ z.cps.toList
        simpa using this)
      have ea : ("0" : Str).cps.toList = [48] := by decide +kernel
      have ez : ("9" : Str).cps.toList = [57] := by decide +kernel
      refine ⟨rfl, yesT ⟨_, rfl, _, _, rfl, rfl, _, rfl, iteP ?_ ⟨_, _, rfl, rfl, _, hL, ?_, ?_, ?_⟩⟩⟩
      · show (!decide (([c] : List Nat) < ("0" : Str).cps.toList)) = true
        rw [ea, lex1]
        exact decide_eq_true hc.1
      · simp only [List.length_map, List.length_replicate]
        exact small (by have : z.cps.size = z.length := rfl; omega)
      · intro b o e
        have nb : b ≠ L := ne_of_none e nL
        rw [upd_ne nb]
        exact sm b o e
      · rw [upd_same]
        have e1 : (!decide ((("9" : Str).cps.toList) < ([c] : List Nat))) = true := by
          rw [ez, lex1]
          exact decide_eq_true hc.2
        show some (HO.lst ((List.replicate i true).map V.bl ++ [V.bl (!decide ((("9" : Str).cps.toList) < ([c] : List Nat)))])) = _
        rw [e1, List.replicate_succ', List.map_append]
        rfl
    · refine ⟨L, _, rfl, .of p.2, ?_⟩
      have e : ((List.replicate z.cps.size true).all id) = true := by simp
      rw [e]
      exact q H' p.1
/-! number_in: slots 0:digits 1:number 2:digit -/
abbrev s_number_in : Stmt := topS 45
theorem sc_number_in : FnScope ["digits", "number", "digit"] ["digits"] (defScope s_number_in) := ⟨rfl, rfl, rfl, by decide +kernel, rfl, by decide +kernel, by decide +kernel⟩
def sp_number_in : Sp := fun vs H Q _ => ∃ n : Int, vs = [.str (nS n)] ∧ 0 ≤ n ∧ n < 10000000000000000000000000000000000000000 ∧ Q (.int n) H
theorem ok_number_in (D : Df K mg "number_in" s_number_in) (T : Tx mg) : Has P w K mg base 1 "number_in" ["digits"] sp_number_in := by
  refine has_of D sc_number_in (fun _ _ _ _ _ _ us hl => match us, hl with | [_], _ => rfl) (fun vs H Q E h => ?_) (fun f cdv A outer s H vs Q E hr h => ?_)
  · obtain ⟨n, rfl, _⟩ := h
    rfl
  · obtain ⟨n, rfl, n0, n1, q⟩ := h
    have ln := nS_len n0 n1
    have dg := nS_digits n0
    have ev := dgF_nS n0
    generalize nS n = z at *
    refine ⟨_, (pss_cons (ps_set (i := 1) sc_number_in.nd rfl (by first | exact Or.inl rfl | exact Or.inr rfl) pe_int)
    (pss_cons (ps_for PassesOwn.never rfl (pi_str (pv 0)) (pg_name (i := 2) sc_number_in.nd rfl (by first | exact Or.inl rfl | exact Or.inr rfl))
      (pss_one (ps_set (i := 1) sc_number_in.nd rfl (by first | exact Or.inl rfl | exact Or.inr rfl) (pe_op op_sub (pe_op op_add (pe_op op_mulW pe_int (pv 1)) (pe_callB call_ord (by rfl) T.n_ord (by decide +kernel) (pa_cons (pv 2) pa_nil))) (pe_callB call_ord (by rfl) T.n_ord (by decide +kernel) (pa_cons pe_str pa_nil))))))
    (pss_one (ps_ret (pv 1))))), ?_⟩
    refine ⟨_, rfl, z, rfl, for_gen (n := z.cps.size) (fun i σ H' => ∃ (y : Option V) (k : Nat), σ = [some (.str z), some (.int k), y] ∧ H' = H ∧ (k : Int) = dgF ((TL.tl z).take i) ∧ k < 10 ^ i) ⟨none, 0, rfl, rfl, rfl, by decide⟩ (fun i σ H' hi _ => hi) (fun σ H' _ => Nat.le_refl _) (fun i x σ H1 H2 hi p y => ?_) (fun σ H' p => ?_)⟩
    · obtain ⟨rfl, c, ec, rfl⟩ := y
      obtain ⟨y, k, rfl, rfl, ek, lk⟩ := p
      have hc : 48 ≤ c ∧ c ≤ 57 := dg c (by
        have := Array.mem_of_getElem? ec
        show c ∈ z.cps.toList
        simpa using this)
      have l40 : i ≤ 40 := by
        have : z.cps.size = z.length := rfl
        omega
      have bk : ((k : Nat) : Int).natAbs < 2 ^ 200 := by
        have h1 : (10 : Nat) ^ i ≤ 10 ^ 40 := Nat.pow_le_pow_right (by decide) l40
        have h2 : (10 : Nat) ^ 40 < 2 ^ 200 := by decide +kernel
        have : ((k : Nat) : Int).natAbs = k := Int.natAbs_natCast k
        omega
      refine ⟨_, rfl, _, _, rfl, rfl, wide_mul (a := 10) (b := 200) (by decide) bk (by decide) (by decide) (by decide), ?_⟩
      refine ⟨_, rfl, ⟨#[c]⟩, rfl, rfl, _, _, rfl, rfl, "0", rfl, (by decide +kernel), _, _, rfl, rfl, ?_⟩
      have e0 : ((⟨#[c]⟩ : Str).cps.getD 0 0 : Nat) = c := rfl
      rw [c48, e0]
      have et : (TL.tl z)[i]? = some c := by
        show z.cps.toList[i]? = some c
        rw [Array.getElem?_toList]
        exact ec
      refine ⟨some (.str ⟨#[c]⟩), 10 * k + (c - 48), ?_, rfl, ?_, ?_⟩
      · have : (10 * (k : Int) + (c : Int) - ((48 : Nat) : Int)) = ((10 * k + (c - 48) : Nat) : Int) := by omega
        show [some (V.str z), some (V.int (10 * (k : Int) + (c : Int) - ((48 : Nat) : Int))), some (V.str ⟨#[c]⟩)] = _
        rw [this]
      · rw [take_snoc et, dgF_snoc, ← ek]
        omega
      · rw [Nat.pow_succ]
        omega
    · obtain ⟨y, k, rfl, rfl, ek, _⟩ := p
      have : z.cps.size = (TL.tl z).length := TL.len_tl z
      rw [this, List.take_length, ev] at ek
      rw [← ek] at q
      exact ⟨_, rfl, q⟩
/-! run_word: slots 0:run 1:kind 2:count -/
abbrev s_run_word : Stmt := topS 46
theorem sc_run_word : FnScope ["run", "kind", "count"] ["run"] (defScope s_run_word) := ⟨rfl, rfl, rfl, by decide +kernel, rfl, by decide +kernel, by decide +kernel⟩
def sp_run_word : Sp := fun vs H Q _ => ∃ (v : V) (r : Run), vs = [v] ∧ RunG H v r ∧ RwOk r ∧ Q (.str (rwS r)) H
theorem ok_run_word (D : Df K mg "run_word" s_run_word) (T : Tx mg) : Has P w K mg base 1 "run_word" ["run"] sp_run_word := by
  refine has_of D sc_run_word (fun _ _ _ _ _ _ us hl => match us, hl with | [_], _ => rfl) (fun vs H Q E h => ?_) (fun f cdv A outer s H vs Q E hr h => ?_)
  · obtain ⟨_, _, rfl, _⟩ := h
    rfl
  · obtain ⟨v, r, rfl, ⟨t, rfl, ht⟩, ok, q⟩ := h
    have l1 := ok.1.2.1
    have l2 := nS_len (n := r.2) (by have := ok.2.1; omega) (by have := ok.2.2; omega)
    refine ⟨_, (pss_cons (ps_asg (pv 0) (pg_any (n := 2) rfl (pgs_cons (pg_name (i := 1) sc_run_word.nd rfl (by first | exact Or.inl rfl | exact Or.inr rfl)) (pgs_cons (pg_name (i := 2) sc_run_word.nd rfl (by first | exact Or.inl rfl | exact Or.inr rfl)) pgs_nil))))
    (pss_one (ps_ret (pe_ifExp (pt_cmpR op_eq (pv 2) pe_int (nomark _)) (pv 1) (pe_joined (.cons (pe_fmt (pv 1)) (.cons pe_str (.cons (pe_fmt (pv 2)) .nil)))))))), ?_⟩
    refine ⟨_, rfl, t, _, rfl, ht, rfl, _, _, rfl, _, _, rfl, rfl, ?_⟩
    by_cases c : r.2 = 1
    · refine ⟨_, rfl, rfl, _, rfl, iteP (decide_eq_true (congrArg V.int c)) ⟨_, rfl, ?_⟩⟩
      rw [tl_rw1 c] at q
      exact q
    · refine ⟨_, rfl, rfl, _, rfl, iteN (nI c) ?_⟩
      have e1 : Str.empty ++ r.1 = r.1 := TL.ext_tl (by rw [TL.tl_append]; rfl)
      refine ⟨_, rfl, .inl ⟨r.1, rfl, smallE (by omega), r.1, rfl, smallE (by rw [e1]; omega), "*", rfl, smallE (by rw [e1, str_app_len, star_len]; omega), _, rfl, .inr ⟨r.2, rfl, log_bd40 (by have := ok.2.1; omega) (by have := ok.2.2; omega), nS r.2, rfl, smallE (by rw [e1, str_app_len, str_app_len, star_len]; omega), ?_⟩⟩⟩
      rw [e1]
      have e2 : rwS r = r.1 ++ "*" ++ nS r.2 := if_neg c
      rw [e2] at q
      exact q
end
end UP

set_option Elab.async false
set_option linter.all false
set_option maxRecDepth 100000
set_option maxHeartbeats 4000000
set_option pp.maxSteps 300
namespace UP
open PySem PySem.Spec PyProof.Rows L2
theorem rw_dash {r : Run} (h : RwOk r) : rwS r ≠ "-" := fun e => by
  have e2 := congrArg TL.tl e
  rw [show TL.tl ("-" : Str) = [45] by decide +kernel] at e2
  have hk := kind_ne h.1
  by_cases c : r.2 = 1
  · rw [tl_rw1 c] at e2
    have : 45 ∈ TL.tl r.1 := by
      rw [e2]
      exact List.mem_singleton.mpr rfl
    have := kind_tl h.1 this
    omega
  · rw [tl_rw c] at e2
    have e3 := congrArg List.length e2
    rw [List.length_append, List.length_append] at e3
    have e3 : (TL.tl r.1).length + 1 + (TL.tl (nS r.2)).length = 1 := e3
    have : 0 < (TL.tl r.1).length := List.length_pos_iff.mpr hk
    omega
section
variable {P : Program} {w : World} {K : PySem.W.Frag} {mg : Str → Option Value} {base : Heap}
/-! format_sequence: slots 0:sequence 1:run -/
abbrev s_format_sequence : Stmt := topS 47
theorem sc_format_sequence : FnScope ["sequence", "run"] ["sequence"] (defScope s_format_sequence) := ⟨rfl, rfl, rfl, by decide +kernel, rfl, by decide +kernel, by decide +kernel⟩
def sp_format_sequence : Sp := fun vs H Q _ => ∃ (v : V) (rs : List Run), vs = [v] ∧ RunsG H v rs ∧ SeqOk rs ∧ ∀ H', Same H H' → Q (.str (sqS rs)) H'
theorem ok_format_sequence (D : Df K mg "format_sequence" s_format_sequence) (G_checked_runs : Has P w K mg base 5 "checked_runs" ["sequence"] sp_checked_runs) (G_run_word : Has P w K mg base 1 "run_word" ["run"] sp_run_word) : Has P w K mg base 6 "format_sequence" ["sequence"] sp_format_sequence := by
  refine has_of D sc_format_sequence (fun _ _ _ _ _ _ us hl => match us, hl with | [_], _ => rfl) (fun vs H Q E h => ?_) (fun f cdv A outer s H vs Q E hr h => ?_)
  · obtain ⟨_, _, rfl, _⟩ := h
    rfl
  · obtain ⟨v, rs, rfl, hR, ok, q⟩ := h
    refine ⟨_, (pss_one (ps_ret (pe_join pe_str (pe_lc (own := [("run", 1)]) rfl sc_format_sequence.nd (pi_list (pe_callH G_checked_runs (hr.mono (by omega)) (by rfl) (pa_cons (pv 0) pa_nil))) (blkOk_by (N := ["sequence", "run"]) (sc := defScope s_format_sequence) (by decide +kernel)) (fun _ _ _ _ _ => (pg_name (i := 1) sc_format_sequence.nd rfl (by first | exact Or.inl rfl | exact Or.inr rfl))) (fun _ _ _ _ _ => pts_nil) (fun _ _ _ _ _ => (pe_callH G_run_word (hr.mono (by omega)) (by rfl) (pa_cons (pv 1) pa_nil))))))), ?_⟩
    refine ⟨⟨_, rfl⟩, _, rfl, v, rs, rfl, hR, ok, fun H1 p s1 np hR1 => ?_⟩
    obtain ⟨xs, hx, hp⟩ := hR1
    have lx : xs.length = rs.length := Paired.len hp
    have l4 := ok.1
    refine ⟨p, rfl, ⟨xs, .of hx⟩, fun L nL => lc_list (K := K) (a := p) (xs := xs) (fun i H' => Same H1 H' ∧ H' L = some (.lst (((rs.take i).map rwS).map V.str))) ⟨same_upd nL, upd_same⟩ (fun i H' _ hP => .of (hP.1 _ _ hx)) (fun i x H2 ex hP => ?_) (fun H2 hP => ?_)⟩
    · obtain ⟨sm, hL⟩ := hP
      obtain ⟨r, er, hr1⟩ := Paired.at hp ex
      have hi : i < xs.length := (List.getElem?_eq_some_iff.mp ex).1
      refine ⟨rfl, yesT ⟨_, rfl, x, r, rfl, (RunV.same sm hr1).dress, (ok.2.1 r (List.mem_of_getElem? er)).rw, _, hL, ?_, same_grow nL sm, ?_⟩⟩
      · rw [List.length_map, List.length_map, List.length_take]
        exact small (by omega)
      · rw [upd_same, take_snoc er, List.map_append, List.map_append]
        rfl
    · obtain ⟨sm, hL⟩ := hP
      rw [lx, List.take_length] at hL
      refine ⟨_, L, rs.map rwS, rfl, rfl, .inl (.of hL), ?_, q _ (s1.trans sm)⟩
      have h2 := sum_le (ws := rs.map rwS) (n := 49) (fun w hw => by
        obtain ⟨e, he, rfl⟩ := List.mem_map.mp hw
        exact rw_len (ok.2.1 e he).rw)
      rw [List.length_map] at h2 ⊢
      have : (" " : Str).length = 1 := by decide +kernel
      rw [this]
      omega
/-! format_state: slots 0:state -/
abbrev s_format_state : Stmt := topS 48
theorem sc_format_state : FnScope ["state"] ["state"] (defScope s_format_state) := ⟨rfl, rfl, rfl, by decide +kernel, rfl, by decide +kernel, by decide +kernel⟩
def sp_format_state : Sp := fun vs H Q _ => ∃ (v : V) (st : Option Run), vs = [v] ∧ StG H v st ∧ (∀ r, st = some r → RwOk r) ∧ ∀ H', Same H H' → Q (.str (stS st)) H'
theorem ok_format_state (D : Df K mg "format_state" s_format_state) (G_checked_state : Has P w K mg base 3 "checked_state" ["state"] sp_checked_state) (G_run_word : Has P w K mg base 1 "run_word" ["run"] sp_run_word) : Has P w K mg base 4 "format_state" ["state"] sp_format_state := by
  refine has_of D sc_format_state (fun _ _ _ _ _ _ us hl => match us, hl with | [_], _ => rfl) (fun vs H Q E h => ?_) (fun f cdv A outer s H vs Q E hr h => ?_)
  · obtain ⟨_, _, rfl, _⟩ := h
    rfl
  · obtain ⟨v, st, rfl, hv, ok, q⟩ := h
    refine ⟨_, (pss_cons (ps_set (i := 0) sc_format_state.nd rfl (by first | exact Or.inl rfl | exact Or.inr rfl) (pe_callH G_checked_state (hr.mono (by omega)) (by rfl) (pa_cons (pv 0) pa_nil)))
    (pss_one (ps_ret (pe_ifExp (pt_cmpR op_isN (pv 0) pe_non (nomark _)) pe_str (pe_callH G_run_word (hr.mono (by omega)) (by rfl) (pa_cons (pv 0) pa_nil)))))), ?_⟩
    refine ⟨_, rfl, v, st, rfl, hv, fun r er => ⟨(ok r er).1, (ok r er).2.1⟩, fun H1 v1 s1 hv1 => ?_⟩
    cases st with
    | none =>
      cases hv1
      exact ⟨_, rfl, rfl, _, rfl, iteP rfl (q _ s1)⟩
    | some r =>
      have hv2 := hv1
      obtain ⟨t, rfl, ht⟩ := hv1
      exact ⟨_, rfl, rfl, _, rfl, iteN rfl ⟨_, rfl, _, r, rfl, RunV.dress hv2, ok r rfl, q _ s1⟩⟩
end
end UP

set_option Elab.async false
set_option linter.all false
set_option maxRecDepth 100000
set_option maxHeartbeats 4000000
set_option pp.maxSteps 600
namespace UP
open PySem PySem.Spec PyProof.Rows L2
/-! ### zip of two values, each a list, a tuple or a text -/
inductive Sd where
  | lst (a : Addr) (xs : List V)
  | tup (a : Addr) (xs : List V)
  | str (z : Str) (t : Tok)
def Sd.xs : Sd → List V
  | .lst _ xs => xs
  | .tup _ xs => xs
  | .str z _ => z.cps.toList.map fun c => V.str ⟨#[c]⟩
def Sd.here (K : PySem.W.Frag) (H : Hp) : Sd → Prop
  | .lst a xs => SqL K H a xs
  | .tup a xs => SqT K H a xs
  | .str _ _ => True
def Sd.itr (it : Addr) (i : Nat) (h : Heap) : Sd → Prop
  | .lst a _ => h.IsListIter it a i
  | .tup a _ => h.IsTupleIter it a i
  | .str z t => h.IsStrIter it (strIterType z) z t i
def Sd.fp (it : Addr) : Sd → List Addr
  | .lst a _ => [it, a]
  | .tup a _ => [it, a]
  | .str _ _ => [it]
def Sd.far (x : Addr) : Sd → Prop
  | .lst a _ => a ≠ x
  | .tup a _ => a ≠ x
  | .str _ _ => True
def Sd.val : Sd → V
  | .lst a _ => .ref a
  | .tup a _ => .ref a
  | .str z _ => .str z
theorem Sd.not_in {S : Sd} {x it : Addr} (h : S.far x) (n : x ≠ it) : x ∉ S.fp it := by
  have two : ∀ {a : Addr}, a ≠ x → x ∉ [it, a] := fun {a} h m => by
    rcases List.mem_cons.mp m with e | e
    · exact n e
    · exact h (List.mem_singleton.mp e).symm
  cases S with
  | lst a xs => exact two h
  | tup a xs => exact two h
  | str z t => exact fun m => n (List.mem_singleton.mp m)
theorem zne {n i j : Nat} (h : i ≠ j) : n + i ≠ n + j := fun e => h (Nat.add_left_cancel e)
/-- u is its value -/
def Sd.is (u : Value) : Sd → Prop
  | .lst a _ => u = .ref a
  | .tup a _ => u = .ref a
  | .str z t => u = .str z t
theorem Sd.it_in (S : Sd) (it : Addr) : it ∈ S.fp it := by cases S <;> exact List.mem_cons_self ..
theorem Sd.cell {S : Sd} {it : Addr} {i : Nat} {h : Heap} (st : S.itr it i h) : ∃ o, h.get? it = some o ∧ ∀ v, o.data ≠ .cell v := by
  cases S with
  | lst a xs =>
    obtain ⟨o, e, _, d⟩ := st
    exact ⟨o, e, fun v q => by rw [d] at q; cases q⟩
  | tup a xs =>
    obtain ⟨o, e, _, d⟩ := st
    exact ⟨o, e, fun v q => by rw [d] at q; cases q⟩
  | str z t =>
    obtain ⟨o, e, _, d⟩ := st
    exact ⟨o, e, fun v q => by rw [d] at q; cases q⟩
theorem Sd.kept {S : Sd} {it : Addr} {i : Nat} {h h' : Heap} (st : S.itr it i h) (k : ∀ o, h.get? it = some o → h'.get? it = some o) : S.itr it i h' := by
  cases S with
  | lst a xs =>
    obtain ⟨o, e, r⟩ := st
    exact ⟨o, k o e, r⟩
  | tup a xs =>
    obtain ⟨o, e, r⟩ := st
    exact ⟨o, k o e, r⟩
  | str z t =>
    obtain ⟨o, e, r⟩ := st
    exact ⟨o, k o e, r⟩
/-- its iterator draws -/
theorem Sd.draws {X : Cx} {pins : List (Addr × Obj)} {σ : L2.St} {H : Hp} {s : Shared} (I : Inv X pins σ H s) {A : Around} (hh : A.handled = none) (S : Sd) (hr : S.here X.K H) {it : Addr} (f : S.far it) :
    ∃ (n : Nat) (Pv : Nat → Value → Prop) (St : Nat → Heap → Prop), Draws X.prog X.w A it (S.fp it) n Pv St ∧ n = S.xs.length ∧ (∀ i u, Pv i u → ∃ v, S.xs[i]? = some v ∧ RelV v u) ∧ (∀ i, S.itr it i s.heap → St i s.heap) ∧ ∀ i h, St i h → S.itr it i h := by
  have fit : ∀ {its : List Value} {xs : List V}, Vals xs its → ∀ (i : Nat) (u : Value), its.toArray[i]? = some u → ∃ v, xs[i]? = some v ∧ RelV v u := fun {its xs} rv i u hu => by
    have hu : its[i]? = some u := by simpa using hu
    have li : i < xs.length := by
      rw [rv.length]
      exact (List.getElem?_eq_some_iff.mp hu).1
    obtain ⟨u', e, r⟩ := rv.get (List.getElem?_eq_getElem li)
    rw [hu] at e
    cases e
    exact ⟨_, List.getElem?_eq_getElem li, r⟩
  cases S with
  | lst a xs =>
    obtain ⟨its, rv, p, _⟩ := I.list hr
    exact ⟨_, _, _, Draws.list hh it a f its.toArray, by show its.toArray.size = xs.length; simp [rv.length], fit rv, fun i st => ⟨st, p.isList⟩, fun i h st => st.1⟩
  | tup a xs =>
    obtain ⟨its, rv, p, _⟩ := I.tuple hr
    exact ⟨_, _, _, Draws.tuple hh it a f its.toArray, by show its.toArray.size = xs.length; simp [rv.length], fit rv, fun i st => ⟨st, p⟩, fun i h st => st.1⟩
  | str z t =>
    refine ⟨_, _, _, Draws.text hh it z t, by show z.cps.size = (z.cps.toList.map fun c => V.str ⟨#[c]⟩).length; simp, fun i u hu => ?_, fun i st => st, fun i h st => st⟩
    obtain ⟨c, k, hc, rfl⟩ := hu
    refine ⟨.str ⟨#[c]⟩, ?_, k, rfl⟩
    show (z.cps.toList.map fun c => V.str ⟨#[c]⟩)[i]? = _
    rw [List.getElem?_map, Array.getElem?_toList, hc]
    rfl
def ItG (K : PySem.W.Frag) (S1 S2 : Sd) : It :=
  ⟨fun i H => S1.here K H ∧ S2.here K H ∧ i < S1.xs.length ∧ i < S2.xs.length,
    fun i H v H' => ∃ T x y, v = .ref T ∧ H T = none ∧ H' = upd H T (.tup [x, y]) ∧ S1.xs[i]? = some x ∧ S2.xs[i]? = some y,
    fun i H => S1.here K H ∧ S2.here K H ∧ i ≤ S1.xs.length ∧ i ≤ S2.xs.length ∧ (i = S1.xs.length ∨ i = S2.xs.length)⟩
theorem turn_zipG {P : Program} {w : World} {K : PySem.W.Frag} {elts : List Expr} {kk : Nat} {tpos : Pos} {z TI TO i1 i2 : Addr} {S1 S2 : Sd} (D : ZipSep2 z TI TO i1 i2 (S1.fp i1) (S2.fp i2)) (f1 : S1.far i1) (f2 : S2.far i2) :
    Turn P w K (.Tuple elts kk tpos) (ItG K S1 S2) [z, TI, TO, i1, i2] z (fun i h => IsZip h z TI TO .none ∧ IsTupOf2 h TI (.ref i1) (.ref i2) ∧ (∃ x y, IsTupOf2 h TO x y) ∧ S1.itr i1 i h ∧ S2.itr i2 i h) where
  mem := by simp
  obj := fun i h st c hc => by
    obtain ⟨hz, hTI, ⟨x, y, hTO⟩, t1, t2⟩ := st
    simp only [List.mem_cons, List.not_mem_nil, or_false] at hc
    rcases hc with rfl | rfl | rfl | rfl | rfl
    · exact ⟨_, hz, fun v q => nomatch q⟩
    · exact ⟨_, hTI, fun v q => nomatch q⟩
    · exact ⟨_, hTO, fun v q => nomatch q⟩
    · exact Sd.cell t1
    · exact Sd.cell t2
  keep := fun i h h' st k => by
    obtain ⟨hz, hTI, ⟨x, y, hTO⟩, t1, t2⟩ := st
    exact ⟨k z (by simp) _ hz, k TI (by simp) _ hTI, ⟨x, y, k TO (by simp) _ hTO⟩, Sd.kept t1 fun o q => k i1 (by simp) o q, Sd.kept t2 fun o q => k i2 (by simp) o q⟩
  item := by
    intro X hP hw hK hc i pins s σ H E I hf st hg
    subst hP hw hK
    obtain ⟨hz, hTI, ⟨x0, y0, hTO⟩, t1, t2⟩ := st
    obtain ⟨e1, e2, l1, l2⟩ := hg
    have hh : X.A.in1.handled = none := I.ok.hd hc
    obtain ⟨n1, P1, St1, D1, en1, it1, to1, fr1⟩ := S1.draws I hh e1 f1
    obtain ⟨n2, P2, St2, D2, en2, it2, to2, fr2⟩ := S2.draws I hh e2 f2
    have zl : z < s.heap.objs.size := Heap.lt_size hz
    refine wpAny_pyNext_zipD2_item D D1 D2 hz hTI hTO (to1 i t1) (to2 i t2) (by omega) (by omega) fun x1 x2 h' tk p1 p2 z' TO' s1 s2 hT hsz hk => ?_
    obtain ⟨v1, ev1, r1⟩ := it1 i x1 p1
    obtain ⟨v2, ev2, r2⟩ := it2 i x2 p2
    refine ⟨_, rfl, wpAny_letOwnedTupleGo_zip (s := { s with heap := h', toks := tk }) z' fun h'' z'' sb => ?_⟩
    have hT2 : h''.get? s.heap.objs.size = some { cls := .type "tuple", data := .seq #[x1, x2] } := (sb.2 _ (Nat.ne_of_gt zl)).trans hT
    have new : ObjOk X.prog X.w (upd H s.heap.objs.size (.tup [v1, v2])) h'' s.heap.objs.size (.tup [v1, v2]) := ⟨by show 2 ≤ sizeLine; decide, [x1, x2], .cons r1 (.cons r2 .nil), ⟨_, hT2, rfl, _, rfl⟩⟩
    have I1 : Inv X pins σ (upd H s.heap.objs.size (.tup [v1, v2])) { s with heap := h'', toks := tk } :=
      I.turnedNew (t' := tk) (ch := [z, TI, TO, i1, i2]) (fun c o nb q => (sb.2 c (fun e => nb (by simp [e]))).trans (hk c o (fun e => nb (by simp [e])) (fun e => nb (by simp [e])) (fun e => nb (by simp [e])) (fun e => nb (by simp [e])) q)) hf (Nat.le_refl _) new
    refine ⟨.ref s.heap.objs.size, _, I1, rfl, ⟨_, v1, v2, rfl, I.hok.fresh (Nat.le_refl _), rfl, ev1, ev2⟩, ⟨z'', ?_, ⟨x1, x2, ?_⟩, ?_, ?_⟩, fun c hcm => ?_⟩
    · exact (sb.2 _ D.TIz).trans (hk _ _ D.TIz D.TITO D.TIi1 D.TIi2 hTI)
    · exact (sb.2 _ D.TOz).trans TO'
    · exact Sd.kept (fr1 _ _ s1) fun o q => (sb.2 _ D.zi1.symm).trans q
    · exact Sd.kept (fr2 _ _ s2) fun o q => (sb.2 _ D.zi2.symm).trans q
    · have hlt : c < s.heap.objs.size := by
        have hcm' := hcm
        simp only [List.mem_cons, List.not_mem_nil, or_false] at hcm'
        rcases hcm' with q | q | q | q | q
        · rw [q]; exact zl
        · rw [q]; exact Heap.lt_size hTI
        · rw [q]; exact Heap.lt_size hTO
        · rw [q]; obtain ⟨_, e, _⟩ := Sd.cell t1; exact Heap.lt_size e
        · rw [q]; obtain ⟨_, e, _⟩ := Sd.cell t2; exact Heap.lt_size e
      rw [upd_ne (Nat.ne_of_lt hlt)]
      exact (hf c hcm).1
  done := by
    intro X hP hw hK hc i pins s σ H E I hf st hg
    subst hP hw hK
    obtain ⟨hz, hTI, ⟨x0, y0, hTO⟩, t1, t2⟩ := st
    obtain ⟨e1, e2, l1, l2, le⟩ := hg
    have hh : X.A.in1.handled = none := I.ok.hd hc
    obtain ⟨n1, P1, St1, D1, en1, it1, to1, fr1⟩ := S1.draws I hh e1 f1
    obtain ⟨n2, P2, St2, D2, en2, it2, to2, fr2⟩ := S2.draws I hh e2 f2
    exact wpAny_pyNext_zipD2_end D D1 D2 hz hTI hTO (to1 i t1) (to2 i t2) (by omega) (by omega) (by omega) fun h' tk hk => ⟨rfl, I.turnedL (t' := tk) (ch := [z, TI, TO, i1, i2]) (fun c o nb q => hk c o (fun e => nb (by simp [e])) (fun e => nb (by simp [e])) (fun e => nb (by simp [e])) (fun e => nb (by simp [e])) q) hf⟩
  self := fun A i s Q E st h => wpAny_pyIter_zip st.1 h
/-- how it begins -/
theorem Sd.begins {X : Cx} {pins : List (Addr × Obj)} {σ : L2.St} {H : Hp} {s : Shared} (I : Inv X pins σ H s) (S : Sd) (hr : S.here X.K H) {u : Value} (hu : S.is u) :
    ∃ (o : Obj) (B : Heap → Prop), Begins u o B ∧ B s.heap ∧ (∀ (it : Addr) (h : Heap), h.get? it = some o → S.itr it 0 h) ∧ ∀ x, s.heap.objs.size ≤ x → S.far x := by
  cases S with
  | lst a xs =>
    obtain ⟨its, rv, p, _⟩ := I.list hr
    cases (show u = Value.ref a from hu)
    exact ⟨_, _, begins_list a its.toArray, p.isList, fun it h e => ⟨_, e, rfl, rfl⟩, fun x l e => by
      have := p.lt
      rw [e] at this
      exact absurd this (Nat.not_lt.mpr l)⟩
  | tup a xs =>
    obtain ⟨its, rv, p, _⟩ := I.tuple hr
    cases (show u = Value.ref a from hu)
    exact ⟨_, _, begins_tuple a its.toArray, p, fun it h e => ⟨_, e, rfl, rfl⟩, fun x l e => by
      obtain ⟨_, g, _⟩ := id p
      have := Heap.lt_size g
      rw [e] at this
      exact absurd this (Nat.not_lt.mpr l)⟩
  | str z t =>
    cases (show u = Value.str z t from hu)
    exact ⟨_, _, begins_text z t, trivial, fun it h e => ⟨_, e, rfl, rfl⟩, fun x l => True.intro⟩
def iZipG (K : PySem.W.Frag) (ta : TA) : TI := fun σ H R => ta σ H fun vs H1 => ∃ v1 v2, vs = [v1, v2] ∧
  ((∃ a xs b ys, v1 = .ref a ∧ v2 = .ref b ∧ (SqL K H1 a xs ∨ SqT K H1 a xs) ∧ (SqL K H1 b ys ∨ SqT K H1 b ys) ∧ ∀ S1 S2 : Sd, S1.xs = xs → S2.xs = ys → S1.here K H1 → S2.here K H1 → (S1 = .lst a xs ∨ S1 = .tup a xs) → (S2 = .lst b ys ∨ S2 = .tup b ys) → R (ItG K S1 S2) H1) ∨
   ∃ a xs z, v1 = .ref a ∧ v2 = .str z ∧ SqL K H1 a xs ∧ ∀ t, R (ItG K (.lst a xs) (.str z t)) H1)
theorem pi_zipG {X : Cx} {e e2 : Expr} {ta : TA} {p pos tpos : Pos} {elts : List Expr} {kk : Nat} (hg : Gl X "zip") (hm : X.mg "zip" = none) (ha : PA X [e, e2] ta)
    (hs : starEach [e, e2] X.env = (false, eval e X.env) :: starEach [e2] X.env := by rfl) (hpl : (backTo pos (starEach [e2] X.env)).any (·.1) = false := by rfl) :
    PI X (.Tuple elts kk tpos) (.Call (.Name "zip" p) [e, e2] [] pos) (iZipG X.K ta) := by
  constructor
  intro pins s σ H R I h
  refine Call_ (ld_blt I hg hm PyProof.Rows.boot_zip (PyProof.Rows.callWith_type1 (thn (ha.run pos pins s σ H _ I h) fun us s1 ⟨vs, H1, I1, r1, q1⟩ => ?_) hs hpl))
  obtain ⟨v1, v2, rfl, q1⟩ := q1
  cases r1 with
  | @cons _ u1 _ _ ru1 rr =>
    cases rr with
    | @cons _ u2 _ _ ru2 rr =>
      cases rr
      have main : ∀ S1 S2 : Sd, S1.here X.K H1 → S2.here X.K H1 → S1.is u1 → S2.is u2 → R (ItG X.K S1 S2) H1 →
          wpAny (model X.prog X.w) X.A (call (.type "zip") [u1, u2]) (fun v s2 => wpAny (model X.prog X.w) X.A (pyIter v) (PIE X pins σ (.Tuple elts kk tpos) R) X.xe s2) X.xe s1 := fun S1 S2 h1 h2 m1 m2 q => by
        obtain ⟨o1, B1, b1, k1, i1, f1⟩ := S1.begins I1 h1 m1
        obtain ⟨o2, B2, b2, k2, i2, f2⟩ := S2.begins I1 h2 m2
        refine zip_begins2 b1 b2 k1 k2 fun h' hz hTI hTO g1 g2 hsz hk => wpAny_pyIter_zip hz ?_
        have I2 : Inv X pins σ H1 { s1 with heap := h' } := I1.kept (t' := s1.toks) hk
        have D : ZipSep2 (s1.heap.objs.size + 4) (s1.heap.objs.size + 2) (s1.heap.objs.size + 3) s1.heap.objs.size (s1.heap.objs.size + 1) (S1.fp s1.heap.objs.size) (S2.fp (s1.heap.objs.size + 1)) :=
          ⟨zne (by decide), zne (by decide), zne (by decide), zne (j := 0) (by decide), Sd.it_in _ _, Sd.not_in (f1 _ (Nat.le_add_right _ _)) (zne (j := 0) (by decide)), Sd.not_in (f1 _ (Nat.le_add_right _ _)) (zne (j := 0) (by decide)), zne (by decide), Sd.it_in _ _, Sd.not_in (f2 _ (Nat.le_add_right _ _)) (zne (by decide)), Sd.not_in (f2 _ (Nat.le_add_right _ _)) (zne (by decide)), Sd.not_in (f2 _ (Nat.le_refl _)) (zne (i := 0) (by decide)), Sd.not_in (f1 _ (Nat.le_add_right _ _)) (zne (j := 0) (by decide))⟩
        refine ⟨s1.heap.objs.size + 4, [s1.heap.objs.size + 4, s1.heap.objs.size + 2, s1.heap.objs.size + 3, s1.heap.objs.size, s1.heap.objs.size + 1], _, _, H1, rfl, I2, turn_zipG D (f1 _ (Nat.le_refl _)) (f2 _ (Nat.le_succ _)), ⟨hz, hTI, ⟨_, _, hTO⟩, i1 _ _ g1, i2 _ _ g2⟩, fun c hcm => ?_, q⟩
        have hle : s1.heap.objs.size ≤ c := by
          simp only [List.mem_cons, List.not_mem_nil, or_false] at hcm
          rcases hcm with e | e | e | e | e <;> rw [e] <;> first | exact Nat.le_add_right _ _ | exact Nat.le_refl _
        exact I1.fpOk hle (I1.hok.fresh hle)
      rcases q1 with ⟨a, xs, b, ys, rfl, rfl, h1, h2, q⟩ | ⟨a, xs, z, rfl, rfl, h1, q⟩
      · rcases h1 with h1 | h1
        · rcases h2 with h2 | h2
          · exact main (.lst a xs) (.lst b ys) h1 h2 ru1 ru2 (q _ _ rfl rfl h1 h2 (.inl rfl) (.inl rfl))
          · exact main (.lst a xs) (.tup b ys) h1 h2 ru1 ru2 (q _ _ rfl rfl h1 h2 (.inl rfl) (.inr rfl))
        · rcases h2 with h2 | h2
          · exact main (.tup a xs) (.lst b ys) h1 h2 ru1 ru2 (q _ _ rfl rfl h1 h2 (.inr rfl) (.inl rfl))
          · exact main (.tup a xs) (.tup b ys) h1 h2 ru1 ru2 (q _ _ rfl rfl h1 h2 (.inr rfl) (.inr rfl))
      · obtain ⟨t, rfl⟩ := ru2
        exact main (.lst a xs) (.str z t) h1 True.intro ru1 rfl (q t)
end UP

set_option Elab.async false
set_option linter.all false
set_option maxRecDepth 100000
set_option maxHeartbeats 4000000
set_option pp.maxSteps 600
namespace UP
open PySem PySem.Spec PyProof.Rows L2
/-! ### d.get(k, x) of a written dict, k there -/
def KDic (K : PySem.W.Frag) (w : World) (a : Addr) : Prop := ∃ es n, K.lookup a = some ⟨.type "dict", none, .dict es n, #[]⟩ ∧ PySem.W.KeysLit w.params es.toList ∧ (a == sysModules) = false
def KVal (K : PySem.W.Frag) (a : Addr) (k : Str) (v : V) : Prop := ∃ u, PySem.W.nsIn K a k = some (some u) ∧ RelV v u
def tKGet2 (K : PySem.W.Frag) (w : World) (td ty tx : TE) : TE := fun σ H Q => td σ H fun x H1 => ∃ a, x = .ref a ∧ KDic K w a ∧ ty σ H1 fun y H2 => tx σ H2 fun z H3 => ∃ k v, y = .str k ∧ KVal K a k v ∧ Q v H3
section
variable {X : Cx} {o e f : Expr} {apos cpos : Pos} {td ty tx : TE}
theorem pe_kget2 (ho : PE X o td) (he : PE X e ty) (hf : PE X f tx) (m : M2 X o "get" apos e f cpos) : PE X (.Call (.Attribute o "get" apos) [e, f] [] cpos) (tKGet2 X.K X.w td ty tx) := by
  constructor
  intro ps s σ H Q I h
  refine wpAny_Call_method m.base m.few m.line PySem.F.plainAttrs_dict PySem.F.slot_dict_get PySem.F.type_dict_get (thn (ho.run ps s σ H _ I h) fun du sa hh => ?_)
  obtain ⟨x, Ha, Ia, rx, a, ex, ⟨es, n, hl, hk, low⟩, q1⟩ := hh
  subst ex
  cases (show du = Value.ref a from rx)
  have hm := PySem.W.mapOf_K (prog := X.prog) (w := X.w) Ia.kIn hl hk
  refine ⟨hm.typeIs, fun b q => ⟨_, Ia.kIn _ _ (by cases q; exact hl), rfl⟩, ?_⟩
  rw [m.trees]
  refine Calls.callWith_builtin rfl (Calls.evalArgs_plain (Calls.spliced_cons (thn (he.run ps sa σ Ha _ Ia q1) fun ku sb hh => ?_)))
  obtain ⟨y, Hb, Ib, ry, q2⟩ := hh
  refine Calls.spliced_cons (thn (hf.run ps sb σ Hb _ Ib q2) fun xu sc hh => Calls.spliced_nil ?_)
  obtain ⟨z, Hc, Ic, rz, k, v, ey, ⟨u0, hn, ru⟩, q3⟩ := hh
  subst ey
  obtain ⟨t, rfl⟩ := ry
  have hm3 := PySem.W.mapOf_K (prog := X.prog) (w := X.w) Ic.kIn hl hk
  refine call_meetsIn PySem.F.slot_dict_get hm3.typeIs PySem.F.entry_dict_get (PySem.F.args_dict_get_3 _ _ _) (meets_dict_get_default (strKind X.prog X.w) a (strKind_is X.prog X.w k t) low xu) ⟨_, hm3, ?_⟩
  rw [PySem.W.find_K hl hn]
  exact ⟨v, Hc, Ic.tok _, ru, q3⟩
end
section
variable {X : Cx} {K : PySem.W.Frag}
theorem sl_listK (h : X.K = K) : SlR X (rSlL K) := h ▸ sl_list
end
def KTup (K : PySem.W.Frag) (t : Addr) (xs : List V) : Prop := ∃ (o : Obj) (its : Array Value) (n : Nat), K.lookup t = some o ∧ o.cls = .type "tuple" ∧ o.data = .seq its n ∧ its.size ≤ sizeLine ∧ Vals xs its.toList
/-- the commands and their forms -/
def cmdT : List (Str × List Str) := [("arrive", ["W", "WN"]), ("giveup", ["N", "NN"]), ("undo", [""]), ("state", [""]), ("waiting", [""]), ("partner", ["N"]), ("pairs", [""]), ("arrivals", [""]), ("sequence", [""])]
structure CmdT (K : PySem.W.Frag) (w : World) (mg : Str → Option Value) (aC : Addr) : Prop where
  a : mg "COMMANDS" = some (.ref aC)
  d : KDic K w aC
  c : ∀ p ∈ cmdT, ∃ t, KVal K aC p.1 (.ref t) ∧ KTup K t (p.2.map V.str)
/-- words of a form -/
def Fm (args : List Str) (f : Str) : Prop := args.length = f.length ∧ ∀ (i : Nat) (x : Str) (c : Nat), args[i]? = some x → (TL.tl f)[i]? = some c → c = 87 ∨ ∃ n : Int, x = nS n ∧ 0 ≤ n ∧ n < 10000000000000000000000000000000000000000
def FmOk (fs : List Str) (args : List Str) : Prop := (∀ f ∈ fs, f.length ≤ 2 ∧ (args.length ≠ f.length ∨ Fm args f)) ∧ ∃ f ∈ fs, Fm args f
theorem nS_zero : nS 0 = "0" := by decide +kernel
theorem num_head {n : Int} (h : 2 ≤ n) : ∃ c t, TL.tl (nS n) = c :: t ∧ c ≠ 48 := by
  rw [tl_nS (by omega)]
  have : ∀ (k : Nat), 1 ≤ k → ∃ c t, TL.numL k = c :: t ∧ c ≠ 48 := by
    intro k
    induction k using Nat.strongRecOn with
    | ind k ih =>
      intro hk
      by_cases c : k < 10
      · exact ⟨48 + k, [], TL.numL_lt c, by omega⟩
      · obtain ⟨d, t, e, nd⟩ := ih (k / 10) (by omega) (by omega)
        exact ⟨d, t ++ [48 + k % 10], by rw [TL.numL_step (by omega), e]; rfl, nd⟩
  exact this n.toNat (by omega)
theorem nS_head {n : Int} (h : 1 ≤ n) : ∃ c t, TL.tl (nS n) = c :: t ∧ c ≠ 48 := by
  by_cases e : n = 1
  · rw [e]
    exact ⟨49, [], by decide +kernel, by decide⟩
  · exact num_head (by omega)
theorem no_empty {ws : List Str} (h : ∀ x ∈ ws, TL.tl x ≠ []) : inV (.str "") (ws.map V.str) = false := by
  unfold inV
  rw [List.any_eq_false]
  intro x hx
  obtain ⟨z, hz, rfl⟩ := List.mem_map.mp hx
  intro e
  have : z = "" := by simpa [eqV] using e
  exact h z hz (by rw [this]; decide +kernel)
theorem strs_flat (ws : List Str) : (ws.map V.str).all flatV = true := by
  rw [List.all_eq_true]
  intro x hx
  obtain ⟨z, _, rfl⟩ := List.mem_map.mp hx
  rfl
theorem tl_W : TL.tl ("W" : Str) = [87] := by decide +kernel
section
variable {P : Program} {w : World} {K : PySem.W.Frag} {mg : Str → Option Value} {base : Heap} {aC : Addr}
/-! is_decimal: slots 0:word -/
abbrev s_is_decimal : Stmt := topS 44
theorem sc_is_decimal : FnScope ["word"] ["word"] (defScope s_is_decimal) := ⟨rfl, rfl, rfl, by decide +kernel, rfl, by decide +kernel, by decide +kernel⟩
def sp_is_decimal : Sp := fun vs H Q _ => ∃ n : Int, vs = [.str (nS n)] ∧ 0 ≤ n ∧ n < 10000000000000000000000000000000000000000 ∧ ∀ H', Same H H' → Q (.bl true) H'
theorem ok_is_decimal (D : Df K mg "is_decimal" s_is_decimal) (G_is_digits : Has P w K mg base 1 "is_digits" ["word"] sp_is_digits) : Has P w K mg base 2 "is_decimal" ["word"] sp_is_decimal := by
  refine has_of D sc_is_decimal (fun _ _ _ _ _ _ us hl => match us, hl with | [_], _ => rfl) (fun vs H Q E h => ?_) (fun f cdv A outer s H vs Q E hr h => ?_)
  · obtain ⟨n, rfl, _⟩ := h
    rfl
  · obtain ⟨n, rfl, n0, n1, q⟩ := h
    have ln := nS_len n0 n1
    refine ⟨_, (pss_one (ps_ret (pe_and (pe_callH G_is_digits (hr.mono (by omega)) (by rfl) (pa_cons (pv 0) pa_nil)) (pe_one (pe_or (pe_cmpR op_eq (pv 0) pe_str (nomark _)) (pe_one (pe_cmpR op_ne (pe_ix ix_str (pv 0) pe_int (fun _ _ => rfl)) pe_str (nomark _)))))))), ?_⟩
    refine ⟨_, rfl, nS n, rfl, nS_ne n0, by omega, nS_digits n0, fun H1 s1 => ⟨true, rfl, iteT ?_⟩⟩
    by_cases c : n = 0
    · exact ⟨_, rfl, rfl, true, congrArg V.bl (decide_eq_true (by rw [c, nS_zero])), iteT (q _ s1)⟩
    · obtain ⟨d, t, et, nd⟩ := nS_head (n := n) (by omega)
      have n48 : nS n ≠ "0" := fun e => by
        rw [e] at et
        have e0 : TL.tl ("0" : Str) = [48] := by decide +kernel
        rw [e0] at et
        exact nd (List.head_eq_of_cons_eq et).symm
      refine ⟨_, rfl, rfl, false, congrArg V.bl (decide_eq_false fun e => n48 (V.str.inj e)), iteF ?_⟩
      refine ⟨_, rfl, _, 0, d, rfl, rfl, smallE (by omega), ?_, rfl, ?_⟩
      · show atI (TL.tl (nS n)) 0 = some d
        rw [et]
        exact atI_ofB (Int.le_refl _) rfl
      · have : (!decide (V.str ⟨#[d]⟩ = V.str "0")) = true := by
          rw [decide_eq_false (fun e => nd ?_)]
          · rfl
          · have := congrArg TL.tl (V.str.inj e)
            have e0 : TL.tl ("0" : Str) = [48] := by decide +kernel
            rw [e0] at this
            exact List.head_eq_of_cons_eq this
        show Q (.bl (!decide (V.str ⟨#[d]⟩ = V.str "0"))) _
        rw [this]
        exact q _ s1
/-! has_form: slots 0:words 1:form 2:word 3:letter -/
abbrev s_has_form : Stmt := topS 51
theorem sc_has_form : FnScope ["words", "form", "word", "letter"] ["words", "form"] (defScope s_has_form) := ⟨rfl, rfl, rfl, by decide +kernel, rfl, by decide +kernel, by decide +kernel⟩
def sp_has_form : Sp := fun vs H Q _ => ∃ (a : Addr) (args : List Str) (f : Str), vs = [.ref a, .str f] ∧ H a = some (.lst (args.map V.str)) ∧ args.length ≤ 100 ∧ f.length ≤ 10 ∧ (args.length ≠ f.length ∨ Fm args f) ∧ ∀ H', Same H H' → Q (.bl (decide (args.length = f.length))) H'
theorem ok_has_form (D : Df K mg "has_form" s_has_form) (T : Tx mg) (G_is_decimal : Has P w K mg base 2 "is_decimal" ["word"] sp_is_decimal) : Has P w K mg base 3 "has_form" ["words", "form"] sp_has_form := by
  refine has_of D sc_has_form (fun _ _ _ _ _ _ us hl => match us, hl with | [_, _], _ => rfl) (fun vs H Q E h => ?_) (fun fn cdv A outer s H vs Q E hr h => ?_)
  · obtain ⟨_, _, _, rfl, _⟩ := h
    rfl
  · obtain ⟨a, args, f, rfl, ha, l1, l2, hf, q⟩ := h
    refine ⟨_, (pss_one (ps_ret (pe_and (pe_cmpR op_eq (pe_callB call_len_seq (by rfl) T.n_len (by decide +kernel) (pa_cons (pv 0) pa_nil)) ((pe_callB call_len_str (by rfl) T.n_len (by decide +kernel) (pa_cons (pv 1) pa_nil))) (nomark _)) (pe_one (pe_callB (cr_all rfl) (by rfl) T.n_all (by decide +kernel) (pa_cons (pe_lc (own := [("word", 2), ("letter", 3)]) rfl sc_has_form.nd (pi_zipG (by rfl) T.n_zip (pa_cons (pv 0) (pa_cons (pv 1) pa_nil))) (blkOk_by (N := ["words", "form", "word", "letter"]) (sc := defScope s_has_form) (by decide +kernel)) (fun _ _ _ _ _ => (pg_tupK (K := K) (n := 2) rfl rfl (pgs_cons (pg_name (i := 2) sc_has_form.nd rfl (by first | exact Or.inl rfl | exact Or.inr rfl)) (pgs_cons (pg_name (i := 3) sc_has_form.nd rfl (by first | exact Or.inl rfl | exact Or.inr rfl)) pgs_nil)))) (fun _ _ _ _ _ => pts_nil) (fun _ _ _ _ _ => (pe_or (pe_cmpR op_eq (pv 3) pe_str (nomark _)) (pe_one (pe_callH G_is_decimal (hr.mono (by omega)) (by rfl) (pa_cons (pv 2) pa_nil)))))) pa_nil)))))), ?_⟩
    refine ⟨_, rfl, a, _, rfl, .inl (.of ha), _, rfl, f, rfl, smallE (by omega), rfl, _, rfl, ?_⟩
    rw [List.length_map]
    by_cases c : args.length = f.length
    · have hf : Fm args f := hf.resolve_left fun n => n c
      rw [decide_eq_true c] at q
      rw [if_pos (decide_eq_true (by rw [c]))]
      have lt : (TL.tl f).length = args.length := by rw [← TL.len_tl, c]
      refine ⟨_, rfl, _, rfl, _, _, rfl, .inr ⟨a, args.map V.str, f, rfl, rfl, .of ha, fun t L nL => lc_gen (J := ItG K (.lst a (args.map V.str)) (.str f t)) (n := args.length) (fun i H' => Same H H' ∧ H' L = some (.lst ((List.replicate i true).map V.bl))) ⟨same_upd nL, upd_same⟩ (fun i H' hi hP => ?_) (fun H' hP => ?_) (fun i x H1 H2 hi hP y => ?_) (fun H1 hP => ?_)⟩⟩
      · refine ⟨.of (hP.1 _ _ ha), True.intro, by show i < (args.map V.str).length; rw [List.length_map]; exact hi, ?_⟩
        show i < ((TL.tl f).map fun c => V.str ⟨#[c]⟩).length
        rw [List.length_map, lt]
        exact hi
      · refine ⟨.of (hP.1 _ _ ha), True.intro, by show _ ≤ (args.map V.str).length; rw [List.length_map]; exact Nat.le_refl _, ?_, .inl (by show _ = (args.map V.str).length; rw [List.length_map])⟩
        show args.length ≤ ((TL.tl f).map fun c => V.str ⟨#[c]⟩).length
        rw [List.length_map, lt]
        exact Nat.le_refl _
      · obtain ⟨sm, hL⟩ := hP
        obtain ⟨t', x1, x2, rfl, nt, rfl, e1, e2⟩ := y
        have e1 : (args.map V.str)[i]? = some x1 := e1
        have e2 : ((TL.tl f).map fun c => V.str ⟨#[c]⟩)[i]? = some x2 := e2
        rw [List.getElem?_map, List.getElem?_eq_getElem hi] at e1
        have hi2 : i < (TL.tl f).length := by omega
        rw [List.getElem?_map, List.getElem?_eq_getElem hi2] at e2
        cases e1
        cases e2
        have st := same_upd (o := .tup [.str args[i], .str ⟨#[(TL.tl f)[i]]⟩]) nt
        have fin : ∀ H3, Same (upd H1 t' (.tup [.str args[i], .str ⟨#[(TL.tl f)[i]]⟩])) H3 → ∃ acc, H3 L = some (.lst acc) ∧ acc.length < sizeLine ∧ Same H (upd H3 L (.lst (acc ++ [V.bl true]))) ∧ (upd H3 L (.lst (acc ++ [V.bl true]))) L = some (.lst ((List.replicate (i + 1) true).map V.bl)) := fun H3 s3 => by
          refine ⟨_, s3 _ _ (st _ _ hL), ?_, same_grow nL (sm.trans (st.trans s3)), ?_⟩
          · simp only [List.length_map, List.length_replicate]
            exact small (by omega)
          · rw [upd_same, List.replicate_succ', List.map_append]
            rfl
        refine ⟨t', _, rfl, .of upd_same, rfl, _, _, rfl, _, _, rfl, rfl, rfl, yesT ?_⟩
        by_cases cw : (TL.tl f)[i] = 87
        · refine ⟨_, rfl, rfl, true, congrArg V.bl (decide_eq_true ?_), iteT (fin _ (Same.refl _))⟩
          rw [cw]
          exact congrArg V.str (TL.ext_tl (by rw [tl_W]))
        · refine ⟨_, rfl, rfl, false, congrArg V.bl (decide_eq_false fun e => cw ?_), iteF ?_⟩
          · have := congrArg TL.tl (V.str.inj e)
            rw [tl_W] at this
            exact List.head_eq_of_cons_eq this
          · rcases hf.2 i args[i] (TL.tl f)[i] (List.getElem?_eq_getElem hi) (List.getElem?_eq_getElem hi2) with e | ⟨n, en, n0, n1⟩
            · exact absurd e cw
            · exact ⟨_, rfl, n, congrArg (fun x => [V.str x]) en, n0, n1, fun H3 s3 => fin _ s3⟩
      · obtain ⟨sm, hL⟩ := hP
        refine ⟨L, _, rfl, .of hL, ?_⟩
        have : ((List.replicate args.length true).all id) = true := by simp
        rw [this]
        exact q _ sm
    · rw [decide_eq_false c] at q
      rw [if_neg (by rw [decide_eq_false (fun e => c (by have := V.int.inj e; omega))]; exact Bool.false_ne_true)]
      exact q _ (Same.refl _)
/-! checked_words: slots 0:line 1:words 2:form -/
abbrev s_checked_words : Stmt := topS 52
theorem sc_checked_words : FnScope ["line", "words", "form"] ["line"] (defScope s_checked_words) := ⟨rfl, rfl, rfl, by decide +kernel, rfl, by decide +kernel, by decide +kernel⟩
def sp_checked_words : Sp := fun vs H Q _ => ∃ (c : Str) (args fs : List Str), vs = [.str (Txt.join " " (c :: args))] ∧ (c, fs) ∈ cmdT ∧ FmOk fs args ∧ (∀ x ∈ c :: args, 32 ∉ TL.tl x ∧ TL.tl x ≠ []) ∧ args.length ≤ 100 ∧ (Txt.join " " (c :: args)).length ≤ 90000 ∧ ∀ H' p, Same H H' → H p = none → H' p = some (.lst ((c :: args).map V.str)) → Q (.ref p) H'
theorem cmd_few : ∀ p ∈ cmdT, p.2.length ≤ 2 := by decide +kernel
theorem ok_checked_words (D : Df K mg "checked_words" s_checked_words) (T : Tx mg) (CD : CmdT K w mg aC) (G_has_form : Has P w K mg base 3 "has_form" ["words", "form"] sp_has_form) : Has P w K mg base 4 "checked_words" ["line"] sp_checked_words := by
  refine has_of D sc_checked_words (fun _ _ _ _ _ _ us hl => match us, hl with | [_], _ => rfl) (fun vs H Q E h => ?_) (fun fn cdv A outer s H vs Q E hr h => ?_)
  · obtain ⟨_, _, _, rfl, _⟩ := h
    rfl
  · obtain ⟨c, args, fs, rfl, mem, ⟨fok, f0, hf0, ff0⟩, ok, la, ll, q⟩ := h
    obtain ⟨t, kv, kt⟩ := CD.c _ mem
    have lf := cmd_few _ mem
    refine ⟨_, (pss_cons (ps_if (pt_not (pt_val (pe_callB call_isi (by rfl) T.n_isinstance (by decide +kernel) (pa_cons (pv 0) (pa_cons (pe_bltn (v := .ty "str") (by rfl) T.n_str (by decide +kernel) rfl) pa_nil))))) (pss_one ps_never) pss_nil)
    (pss_cons (ps_set (i := 1) sc_checked_words.nd rfl (by first | exact Or.inl rfl | exact Or.inr rfl) (pe_split (pv 0) pe_str))
    (pss_cons (ps_if (PW.pt (pw_or (pt_cmpR op_in_seq pe_str (pv 1) (by with_unfolding_all rfl)) (pw_or1 (pt_not (pt_val (pe_callB (cr_any rfl) (by rfl) T.n_any (by decide +kernel) (pa_cons (pe_lc (own := [("form", 2)]) rfl sc_checked_words.nd (pi_tup (pe_kget2 (pe_glob (v := .ref aC) (by rfl) CD.a rfl) (pe_ix ix_list (pv 1) pe_int (fun _ _ => rfl)) (pe_tup pa_nil) ⟨by rfl, by rfl, by rfl, by rfl⟩)) (blkOk_by (N := ["line", "words", "form"]) (sc := defScope s_checked_words) (by decide +kernel)) (fun _ _ _ _ _ => (pg_name (i := 2) sc_checked_words.nd rfl (by first | exact Or.inl rfl | exact Or.inr rfl))) (fun _ _ _ _ _ => pts_nil) (fun _ _ _ _ _ => (pe_callH G_has_form (hr.mono (by omega)) (by rfl) (pa_cons ((pe_slice (sl_listK (K := K) rfl) (pv 1) (po_some pe_int) po_none)) (pa_cons (pv 2) pa_nil))))) pa_nil))))))) (pss_one ps_never) pss_nil)
    (pss_one (ps_ret (pv 1)))))), ?_⟩
    refine ⟨_, rfl, _, _, _, _, true, rfl, .ty "str", .base (.str _), kit_ty (by decide +kernel), true, rfl, iteF ?_⟩
    refine ⟨_, rfl, ⟨_, rfl⟩, _, _, rfl, rfl, (by decide +kernel), Nat.le_of_lt (small (by omega)), fun p np => ?_⟩
    rw [split_words (by intro z; cases z) (fun x hx => (ok x hx).1)]
    have sp := same_upd (o := .lst ((c :: args).map V.str)) np
    have hp := upd_same (H := H) (a := p) (o := .lst ((c :: args).map V.str))
    generalize upd H p (.lst ((c :: args).map V.str)) = H1 at *
    refine ⟨_, rfl, p, _, rfl, .inl (.of hp), rfl, strs_flat _, ?_⟩
    rw [no_empty fun x hx => (ok x hx).2]
    refine ⟨false, rfl, iteF ?_⟩
    refine ⟨aC, rfl, CD.d, ⟨_, rfl, p, _, 0, _, rfl, rfl, .of hp, atI_ofB (Int.le_refl _) rfl, Nat.zero_le _, fun te nte => ⟨c, .ref t, rfl, kv, ?_⟩⟩⟩
    have se := same_upd (o := .tup []) nte
    refine ⟨t, rfl, ⟨_, .inr kt⟩, fun L nL => lc_tup (K := K) (a := t) (xs := fs.map V.str) (fun i H' => Same H1 H' ∧ H' L = some (.lst (((fs.take i).map fun f => decide (args.length = f.length)).map V.bl))) ⟨se.trans (same_upd nL), upd_same⟩ (fun i H' _ hP => .inr kt) (fun i x H2 ex hP => ?_) (fun H2 hP => ?_)⟩
    · obtain ⟨sm, hL⟩ := hP
      rw [List.getElem?_map] at ex
      cases ef : fs[i]? with
      | none =>
        rw [ef] at ex
        cases ex
      | some f =>
        rw [ef] at ex
        cases ex
        obtain ⟨lf2, cf⟩ := fok f (List.mem_of_getElem? ef)
        have hi : i < fs.length := (List.getElem?_eq_some_iff.mp ef).1
        refine ⟨rfl, yesT ⟨_, rfl, 1, rfl, p, _, rfl, .of (sm _ _ hp), fun l nl => ?_⟩⟩
        rw [cutt_one]
        have sl := same_upd (o := .lst (((c :: args).map V.str).drop 1)) nl
        have nLH : L ≠ l := ne_of_none hL nl
        refine ⟨_, rfl, l, args, f, rfl, upd_same, la, by omega, cf, fun H3 s3 => ?_⟩
        refine ⟨_, s3 _ _ (sl _ _ hL), ?_, same_grow ?_ (sm.trans (sl.trans s3)), ?_⟩
        · simp only [List.length_map, List.length_take]
          exact small (by have : fs.length ≤ 2 := lf; omega)
        · exact se.free nL
        · rw [upd_same, take_snoc ef, List.map_append, List.map_append]
          rfl
    · obtain ⟨sm, hL⟩ := hP
      rw [List.length_map, List.take_length] at hL
      have ha : (fs.map fun f => decide (args.length = f.length)).any id = true := by
        rw [List.any_eq_true]
        exact ⟨true, List.mem_map.mpr ⟨f0, hf0, decide_eq_true ff0.1⟩, rfl⟩
      refine ⟨L, _, rfl, .of hL, ?_⟩
      rw [ha]
      exact ⟨true, rfl, iteF ⟨_, rfl, q _ p (sp.trans sm) np (sm _ _ hp)⟩⟩
end
end UP

set_option Elab.async false
set_option linter.all false
set_option maxRecDepth 100000
set_option maxHeartbeats 4000000
set_option pp.maxSteps 600
namespace UP
open PySem PySem.Spec PyProof.Rows L2
/-! ### ranges as text -/
def rgW (p : Rg) : Str := if p.1 = p.2 then nS p.1 else nS p.1 ++ "-" ++ nS p.2
def rgsS (R : List Rg) : Str := if R = [] then "none" else Txt.join " " (R.map rgW)
def RgB (p : Rg) : Prop := 0 ≤ p.1 ∧ p.1 < 10000000000000000000000000000000000000000 ∧ 0 ≤ p.2 ∧ p.2 < 10000000000000000000000000000000000000000
theorem dash_len : ("-" : Str).length = 1 := by decide +kernel
theorem rgW_len {p : Rg} (h : RgB p) : (rgW p).length ≤ 81 := by
  have h1 := nS_len h.1 h.2.1
  have h2 := nS_len h.2.2.1 h.2.2.2
  unfold rgW
  split
  · omega
  · rw [str_app_len, str_app_len, dash_len]
    omega
theorem rgs_sum {R : List Rg} (h : ∀ p ∈ R, RgB p) (l : R.length ≤ 1000) : ((R.map rgW).map (·.length)).sum + (R.map rgW).length * (" " : Str).length ≤ 16777216 := by
  have h2 := sum_le (ws := R.map rgW) (n := 81) (fun w hw => by
    obtain ⟨e, he, rfl⟩ := List.mem_map.mp hw
    exact rgW_len (h e he))
  rw [List.length_map] at h2 ⊢
  have : (" " : Str).length = 1 := by decide +kernel
  rw [this]
  omega
/-! ### arrivals as text -/
def opR (r : Run) : Op := (("arrive" : Str), .inr r.1, r.2)
def txR (rs : List Run) : Str := if joinR [] rs = [] then "empty" else sqS (joinR [] rs)
theorem addR_ne (rs : List Run) (r : Run) : addR rs r ≠ [] := by
  unfold addR
  split
  · intro z; cases z
  · split
    · intro z
      have := congrArg List.length z
      rw [List.length_append] at this
      exact absurd this (Nat.succ_ne_zero _)
    · intro z
      have := congrArg List.length z
      rw [List.length_append] at this
      exact absurd this (Nat.succ_ne_zero _)
theorem seq_one {r : Run} (h : RunOk r) : SeqOk [r] := ⟨by show 1 ≤ 400; decide, fun x hx => by rw [List.mem_singleton.mp hx]; exact h, fun i x y hx hy => by simp at hy⟩
section
variable {P : Program} {w : World} {K : PySem.W.Frag} {mg : Str → Option Value} {base : Heap}
/-! text_of_ranges: slots 0:ranges 1:words 2:first 3:last -/
abbrev s_text_of_ranges : Stmt := topS 53
theorem sc_text_of_ranges : FnScope ["ranges", "words", "first", "last"] ["ranges"] (defScope s_text_of_ranges) := ⟨rfl, rfl, rfl, by decide +kernel, rfl, by decide +kernel, by decide +kernel⟩
def sp_text_of_ranges : Sp := fun vs H Q _ => ∃ (a : Addr) (R : List Rg), vs = [.ref a] ∧ Rngs H a R ∧ (∀ p ∈ R, RgB p) ∧ R.length ≤ 1000 ∧ ∀ H', Same H H' → Q (.str (rgsS R)) H'
theorem ok_text_of_ranges (D : Df K mg "text_of_ranges" s_text_of_ranges) (T : Tx mg) : Has P w K mg base 1 "text_of_ranges" ["ranges"] sp_text_of_ranges := by
  refine has_of D sc_text_of_ranges (fun _ _ _ _ _ _ us hl => match us, hl with | [_], _ => rfl) (fun vs H Q E h => ?_) (fun f cdv A outer s H vs Q E hr h => ?_)
  · obtain ⟨_, _, rfl, _⟩ := h
    rfl
  · obtain ⟨a, R, rfl, ⟨xs, hx, hxp⟩, ok, l, q⟩ := h
    have lx : xs.length = R.length := Paired.len hxp
    refine ⟨_, (pss_cons (ps_setLc (i := 1) (own := [("first", 2), ("last", 3)]) rfl sc_text_of_ranges.nd rfl rfl (sw_true rfl rfl rfl (by decide +kernel)) (pi_list (pv 0)) (blkOk_by (N := ["ranges", "words", "first", "last"]) (sc := defScope s_text_of_ranges) (by decide +kernel)) (fun _ _ _ _ _ => (pg_tupK (K := K) (n := 2) rfl rfl (pgs_cons (pg_name (i := 2) sc_text_of_ranges.nd rfl (by first | exact Or.inl rfl | exact Or.inr rfl)) (pgs_cons (pg_name (i := 3) sc_text_of_ranges.nd rfl (by first | exact Or.inl rfl | exact Or.inr rfl)) pgs_nil)))) (fun _ _ _ _ _ => pts_nil) (fun _ _ _ _ _ => (pe_ifExp (pt_cmpR op_eq (pv 2) (pv 3) (nomark _)) (pe_callTy call_str_int (by rfl) T.n_str (by decide +kernel) (pa_cons (pv 2) pa_nil)) (pe_joined (.cons (pe_fmt (pv 2)) (.cons pe_str (.cons (pe_fmt (pv 3)) .nil)))))))
    (pss_one (ps_ret (pe_ifExp (pt_truth (pv 1) (by intro _; rfl)) (pe_join pe_str (pv 1)) pe_str)))), ?_⟩
    refine ⟨_, rfl, a, rfl, ⟨xs, .of hx⟩, fun L nL => lc_list (K := K) (a := a) (xs := xs) (fun i H' => Same H H' ∧ H' L = some (.lst (((R.take i).map rgW).map V.str))) ⟨same_upd nL, upd_same⟩ (fun i H' _ hP => .of (hP.1 _ _ hx)) (fun i x H2 ex hP => ?_) (fun H2 hP => ?_)⟩
    · obtain ⟨sm, hL⟩ := hP
      obtain ⟨p, ep, hp⟩ := Paired.at hxp ex
      obtain ⟨t, rfl, ht⟩ := hp.tk (stk sm)
      have hi : i < xs.length := (List.getElem?_eq_some_iff.mp ex).1
      have okp := ok p (List.mem_of_getElem? ep)
      have l1 := nS_len okp.1 okp.2.1
      have l2 := nS_len okp.2.2.1 okp.2.2.2
      have fin : ∀ z, z = rgW p → (((R.take i).map rgW).map V.str).length < sizeLine ∧ Same H (upd H2 L (.lst (((R.take i).map rgW).map V.str ++ [.str z]))) ∧ (upd H2 L (.lst (((R.take i).map rgW).map V.str ++ [.str z]))) L = some (.lst (((R.take (i + 1)).map rgW).map V.str)) := fun z ez => by
        rw [ez]
        refine ⟨?_, same_grow nL sm, ?_⟩
        · rw [List.length_map, List.length_map, List.length_take]
          exact small (by omega)
        · rw [upd_same, take_snoc ep, List.map_append, List.map_append]
          rfl
      refine ⟨t, _, rfl, .of ht, rfl, _, _, rfl, _, _, rfl, rfl, rfl, yesT ?_⟩
      by_cases c : p.1 = p.2
      · exact ⟨_, rfl, _, rfl, rfl, _, rfl, iteP (decide_eq_true (congrArg V.int c)) ⟨_, rfl, p.1, rfl, log_bd40 (by have := okp.1; omega) (by have := okp.2.1; omega), _, hL, fin _ (if_pos c).symm⟩⟩
      · have e1 : Str.empty ++ nS p.1 = nS p.1 := TL.ext_tl (by rw [TL.tl_append]; rfl)
        refine ⟨_, rfl, _, rfl, rfl, _, rfl, iteN (nI c) ?_⟩
        refine ⟨_, rfl, .inr ⟨p.1, rfl, log_bd40 (by have := okp.1; omega) (by have := okp.2.1; omega), nS p.1, rfl, smallE (by rw [e1]; omega), "-", rfl, smallE (by rw [e1, str_app_len, dash_len]; omega), _, rfl, .inr ⟨p.2, rfl, log_bd40 (by have := okp.2.2.1; omega) (by have := okp.2.2.2; omega), nS p.2, rfl, smallE (by rw [e1, str_app_len, str_app_len, dash_len]; omega), ?_⟩⟩⟩
        rw [e1]
        exact ⟨_, hL, fin _ (if_neg c).symm⟩
    · obtain ⟨sm, hL⟩ := hP
      rw [lx, List.take_length] at hL
      by_cases e : R = []
      · subst e
        refine ⟨_, rfl, false, .inl ⟨[], .of hL, rfl⟩, iteF ?_⟩
        exact q _ sm
      · have en : rgsS R = Txt.join " " (R.map rgW) := if_neg e
        rw [en] at q
        refine ⟨_, rfl, true, .inl ⟨_, .of hL, by cases R with | nil => exact absurd rfl e | cons _ _ => rfl⟩, iteT ?_⟩
        exact ⟨⟨_, rfl⟩, _, rfl, _, L, R.map rgW, rfl, rfl, .inl (.of hL), rgs_sum ok l, q _ sm⟩
end
end UP

set_option Elab.async false
set_option linter.all false
set_option maxRecDepth 100000
set_option maxHeartbeats 4000000
set_option pp.maxSteps 900
namespace UP
open PySem PySem.Spec PyProof.Rows L2
/-! ### operations of both kinds -/
def runO (o : Op) : Option Run := match o.2.1 with
  | .inr k => if o.1 = "arrive" then some (k, o.2.2) else none
  | .inl _ => none
/-- the arrivals among operations -/
def arO (os : List Op) : List Run := os.filterMap runO
/-- an operation of a station -/
def OpK (o : Op) : Prop := (∃ (k : Str) (n : Int), o = opR (k, n) ∧ RunOk (k, n)) ∨ ∃ (i n : Int), o = (("give_up" : Str), .inl i, n)
theorem arO_snoc (os : List Op) (o : Op) : arO (os ++ [o]) = arO os ++ (runO o).toList := by
  unfold arO
  rw [List.filterMap_append]
  congr 1
theorem runO_arr (k : Str) (n : Int) : runO (opR (k, n)) = some (k, n) := by
  show (if ("arrive" : Str) = "arrive" then some (k, n) else none) = some (k, n)
  exact if_pos rfl
theorem runO_giv (i n : Int) : runO (("give_up" : Str), .inl i, n) = none := rfl
theorem ag : ¬ (("give_up" : Str) = "arrive") := by decide +kernel
section
variable {P : Program} {w : World} {K : PySem.W.Frag} {mg : Str → Option Value} {base : Heap}
/-! text_of_arrivals: slots 0:operations 1:runs 2:name 3:value 4:count -/
abbrev s_text_of_arrivals : Stmt := topS 54
theorem sc_text_of_arrivals : FnScope ["operations", "runs", "name", "value", "count"] ["operations"] (defScope s_text_of_arrivals) := ⟨rfl, rfl, rfl, by decide +kernel, rfl, by decide +kernel, by decide +kernel⟩
def sp_text_of_arrivals : Sp := fun vs H Q _ => ∃ (a : Addr) (os : List Op), vs = [.ref a] ∧ Opl H a os ∧ (∀ o ∈ os, OpK o) ∧ (∀ i, SeqOk (joinR [] (arO (os.take i)))) ∧ ∀ H', Same H H' → Q (.str (txR (arO os))) H'
theorem ok_text_of_arrivals (D : Df K mg "text_of_arrivals" s_text_of_arrivals) (T : Tx mg) (G_joined : Has P w K mg base 6 "joined" ["first", "second"] sp_joined) (G_format_sequence : Has P w K mg base 6 "format_sequence" ["sequence"] sp_format_sequence) : Has P w K mg base 7 "text_of_arrivals" ["operations"] sp_text_of_arrivals := by
  refine has_of D sc_text_of_arrivals (fun _ _ _ _ _ _ us hl => match us, hl with | [_], _ => rfl) (fun vs H Q E h => ?_) (fun f cdv A outer s H vs Q E hr h => ?_)
  · obtain ⟨_, _, rfl, _⟩ := h
    rfl
  · obtain ⟨a, os, rfl, ⟨xs, hx, hxp⟩, okr, oks, q⟩ := h
    have lx : xs.length = os.length := Paired.len hxp
    refine ⟨_, (pss_cons (ps_set (i := 1) sc_text_of_arrivals.nd rfl (by first | exact Or.inl rfl | exact Or.inr rfl) (pe_lst pa_nil))
    (pss_cons (ps_for PassesOwn.never rfl (pi_list (pv 0)) (pg_tup rfl (pgs_cons (pg_name (i := 2) sc_text_of_arrivals.nd rfl (by first | exact Or.inl rfl | exact Or.inr rfl)) (pgs_cons (pg_name (i := 3) sc_text_of_arrivals.nd rfl (by first | exact Or.inl rfl | exact Or.inr rfl)) (pgs_cons (pg_name (i := 4) sc_text_of_arrivals.nd rfl (by first | exact Or.inl rfl | exact Or.inr rfl)) pgs_nil))))
      (pss_one (ps_if (pt_cmpR op_eq (pv 2) pe_str (nomark _)) (pss_one (ps_set (i := 1) sc_text_of_arrivals.nd rfl (by first | exact Or.inl rfl | exact Or.inr rfl) (pe_callH G_joined (hr.mono (by omega)) (by rfl) (pa_cons (pv 1) (pa_cons (pe_lst (pa_cons (pe_tup (pa_cons (pv 3) (pa_cons (pv 4) pa_nil))) pa_nil)) pa_nil))))) pss_nil)))
    (pss_one (ps_ret (pe_ifExp (pt_truth (pv 1) (by intro _; rfl)) (pe_callH G_format_sequence (hr.mono (by omega)) (by rfl) (pa_cons (pv 1) pa_nil)) pe_str))))), ?_⟩
    refine ⟨Nat.zero_le _, fun L0 nL0 => ?_⟩
    refine ⟨_, rfl, a, rfl, ⟨xs, .of (same_upd nL0 _ _ hx)⟩, for_list (K := K) (a := a) (xs := xs) (fun i σ H' => ∃ L y2 y3 y4, σ = [some (.ref a), some (.ref L), y2, y3, y4] ∧ Same H H' ∧ Runs H' L (joinR [] (arO (os.take i))))
      ⟨_, _, _, _, rfl, same_upd nL0, ⟨[], upd_same, .nil⟩⟩ (fun i σ H' _ hP => ?_) (fun i x σ H' ex hP => ?_) (fun σ H' hP => ?_)⟩
    · obtain ⟨_, _, _, _, _, s, _⟩ := hP
      exact .of (s _ _ hx)
    · obtain ⟨L, y2, y3, y4, rfl, sm, hL⟩ := hP
      obtain ⟨o, eo, ho⟩ := Paired.at hxp ex
      have et := take_snoc eo
      rcases okr o (List.mem_of_getElem? eo) with ⟨k, n, rfl, rok⟩ | ⟨j, n, rfl⟩
      · obtain ⟨t, rfl, ht⟩ := OpV.tk (stk sm) ho
        have ht : H' t = some (.tup [.str "arrive", .str k, .int n]) := ht
        refine ⟨t, _, rfl, .of ht, rfl, _, _, rfl, _, _, rfl, _, _, rfl, rfl, ?_⟩
        refine ⟨_, rfl, rfl, _, rfl, iteP (decide_eq_true rfl) ?_⟩
        refine ⟨_, rfl, _, rfl, _, rfl, (by show 2 ≤ sizeLine; decide), fun u nu => ⟨(by show 1 ≤ sizeLine; decide), fun v nv => ?_⟩⟩
        have su := same_upd (o := .tup [.str k, .int n]) nu
        have sv := same_upd (o := .lst [.ref u]) nv
        have hv : Runs (upd (upd H' u (.tup [.str k, .int n])) v (.lst [.ref u])) v [(k, n)] := ⟨_, upd_same, .cons ⟨u, rfl, sv _ _ upd_same⟩ .nil⟩
        have ek : joinR (joinR [] (arO (os.take i))) [(k, n)] = joinR [] (arO (os.take (i + 1))) := by
          rw [et, arO_snoc, runO_arr, Option.toList, joinR_snoc]
          rfl
        have ok1 := oks (i + 1)
        refine ⟨.ref L, .ref v, joinR [] (arO (os.take i)), [(k, n)], rfl, ((hL.same su).same sv).dress, oks i, hv.dress, seq_one rok, by rw [ek]; exact ok1.1, by rw [ek]; exact fun x hx => (ok1.2.1 x hx).2.2, fun H2 p s2 np hp => ?_⟩
        rw [ek] at hp
        exact ⟨p, _, _, _, rfl, sm.trans (su.trans (sv.trans s2)), hp⟩
      · obtain ⟨t, rfl, ht⟩ := OpV.tk (stk sm) ho
        have ht : H' t = some (.tup [.str "give_up", .int j, .int n]) := ht
        refine ⟨t, _, rfl, .of ht, rfl, _, _, rfl, _, _, rfl, _, _, rfl, rfl, ?_⟩
        refine ⟨_, rfl, rfl, _, rfl, iteN (decide_eq_false fun e => ag (V.str.inj e)) ?_⟩
        refine ⟨_, _, _, _, rfl, sm, ?_⟩
        rw [et, arO_snoc, runO_giv, Option.toList, List.append_nil]
        exact hL
    · obtain ⟨L, y2, y3, y4, rfl, sm, hL⟩ := hP
      rw [lx, List.take_length] at hL
      have okE := oks os.length
      rw [List.take_length] at okE
      obtain ⟨ys, hy, hyp⟩ := id hL
      by_cases e : joinR [] (arO os) = []
      · rw [e] at hyp
        cases hyp
        have et : txR (arO os) = "empty" := if_pos e
        rw [et] at q
        exact ⟨_, rfl, false, .inl ⟨[], .of hy, rfl⟩, iteF (q _ sm)⟩
      · have et : txR (arO os) = sqS (joinR [] (arO os)) := if_neg e
        rw [et] at q
        refine ⟨_, rfl, true, .inl ⟨ys, .of hy, ?_⟩, iteT ⟨_, rfl, .ref L, joinR [] (arO os), rfl, hL.dress, okE, fun H2 s2 => q _ (sm.trans s2)⟩⟩
        cases ys with
        | nil =>
          have := Paired.len hyp
          exact absurd (List.length_eq_zero_iff.mp this.symm) e
        | cons _ _ => rfl
end
/-! ### the console -/
def fl1 (p : Addr) : List (Str × V) := putF "station" (.ref p) []
theorem fl1_get (p : Addr) : (fl1 p).lookup ("station" : Str) = some (.ref p) := by
  unfold fl1
  rw [lookup_putF, if_pos rfl]
theorem fl1_no (p : Addr) {m : Str} (h : ¬ m = "station") : (fl1 p).lookup m = none := by
  unfold fl1
  rw [lookup_putF, if_neg h]
  rfl
structure ClsC (K : PySem.W.Frag) (mg : Str → Option Value) (C : Addr) : Prop where
  cl : Cls K C
  n1 : NoAttr K C "station"
  mkS : mg "Console" = some (.ref C)
theorem stnh0 {C : Addr} {H : Hp} {p ap ar ab : Addr} {S : Sta} (z : Stn C H p ap ar ab S []) : StnH C H p ap ar ab S [] := by
  obtain ⟨ob, rg, bl, ⟨xs, hx, hp⟩, n1, n2⟩ := z
  cases hp
  exact ⟨ob, rg, bl, ⟨[], hx, .nil⟩, n1, n2, fun e h => by cases h⟩
/-- a console and its station, with its past -/
structure Con (CC C : Addr) (H : Hp) (q p ap ar ab : Addr) (S : Sta) (es : List Ent) (rs : List Op) : Prop where
  ob : ∃ dx, H q = some (.ins CC dx (fl1 p))
  sh : StnH C H p ap ar ab S es
  eo : es.map (·.o) = rs
  ne : q ≠ p ∧ q ≠ ap
theorem Con.st {CC C : Addr} {H : Hp} {q p ap ar ab : Addr} {S : Sta} {es : List Ent} {rs : List Op} (z : Con CC C H q p ap ar ab S es rs) : Stn C H p ap ar ab S (rs) := z.eo ▸ z.sh.stn
theorem Con.same {CC C : Addr} {H H' : Hp} {q p ap ar ab : Addr} {S : Sta} {es : List Ent} {rs : List Op} (z : Con CC C H q p ap ar ab S es rs) (s : Same H H') : Con CC C H' q p ap ar ab S es rs := by
  obtain ⟨dx, h⟩ := z.ob
  exact ⟨⟨dx, s _ _ h⟩, z.sh.same s, z.eo, z.ne⟩
def mateS : Option Int → Str
  | none => "none"
  | some j => nS j
/-- a question and its answer -/
inductive Ans (S : Sta) (rs : List Op) : Str → List Str → Str → Prop where
  | state : (∀ r, S.st = some r → RwOk r) → Ans S rs "state" [] (stS S.st)
  | waiting : (∀ p ∈ S.R, RgB p) → S.R.length ≤ 1000 → Ans S rs "waiting" [] (rgsS S.R)
  | partner (n : Int) : 0 ≤ n → n < S.n → n < 10000000000000000000000000000000000000000 → (∀ j, pgR S.B n = some j → 0 ≤ j ∧ j < 10000000000000000000000000000000000000000) → Ans S rs "partner" [nS n] (mateS (pgR S.B n))
  | pairs : 0 ≤ S.m → S.m < 10000000000000000000000000000000000000000 → Ans S rs "pairs" [] (nS S.m)
  | arrivals : 0 ≤ S.n → S.n < 10000000000000000000000000000000000000000 → Ans S rs "arrivals" [] (nS S.n)
  | sequence : (∀ o ∈ rs, OpK o) → (∀ i, SeqOk (joinR [] (arO (rs.take i)))) → rs.length ≤ 50000 → Ans S rs "sequence" [] (txR (arO rs))
theorem nf_current_stateC : NotF "current_state" := nf_current_state
theorem nf_operations_done : NotF "operations_done" := ⟨by decide +kernel, by decide +kernel, by decide +kernel, by decide +kernel, by decide +kernel, by decide +kernel⟩
theorem strN {a b : Str} (h : a ≠ b) : decide (V.str a = V.str b) = false := decide_eq_false fun e => h (V.str.inj e)
section
variable {P : Program} {w : World} {K : PySem.W.Frag} {mg : Str → Option Value} {base : Heap} {C CC aC : Addr}
/-! Console.__init__: slots 0:self -/
abbrev s_Console___init__ : Stmt := inClass (topS 55) 0
theorem sc_Console___init__ : FnScope ["self"] ["self"] (defScope s_Console___init__) := ⟨rfl, rfl, rfl, by decide +kernel, rfl, by decide +kernel, by decide +kernel⟩
def sp_Console_init (CC C : Addr) : Sp := fun vs H Q _ => ∃ (q dx : Addr), vs = [.ref q] ∧ H q = some (.ins CC dx []) ∧ ∀ H' p ap ar ab, But q H H' → H p = none → H ap = none → H ar = none → H ab = none → Con CC C H' q p ap ar ab ⟨none, [], 0, 0, []⟩ [] [] → Q .non H'
theorem ok_Console___init__ (D : DfI K CC "Console.__init__" s_Console___init__) (TS : ClsT K mg C) (TC : ClsC K mg CC) (G_Station___init__ : HasI P w K mg base C 1 (sp_Station_init C)) : HasI P w K mg base CC 3 (sp_Console_init CC C) := by
  refine hasI_of D sc_Console___init__ (fun _ _ _ _ _ _ us hl => match us, hl with | [_], _ => rfl) (fun vs H Q E h => ?_) (fun f cdv A outer s₀ H vs Q E hr h => ?_)
  · obtain ⟨_, _, rfl, _⟩ := h
    rfl
  · obtain ⟨q, dx, rfl, hq, qq⟩ := h
    refine ⟨_, (pss_one (ps_fld (pv 0) (pe_makeO TS.mkS G_Station___init__ (hr.mono (by omega)) (by rfl)) rfl)), ?_⟩
    refine fun p dx' np nd nx => ⟨p, dx', rfl, upd_same, fun H6 ap ar ab b6 nap nar nab zs => ⟨rfl, ?_⟩⟩
    have s5 : Same H (upd (upd H dx' (.own p)) p (.ins C dx' [])) := fun b o e => by
      rw [upd_ne (ne_of_none e np), upd_ne (ne_of_none e nd)]
      exact e
    have s6 : Same H H6 := fun b o e => b6 _ _ (ne_of_none e np) (s5 _ _ e)
    have fr : ∀ {x : Addr}, (upd (upd H dx' (.own p)) p (.ins C dx' [])) x = none → H x = none := fun {x} e => by
      cases y : H x with
      | none => rfl
      | some o =>
        rw [s5 _ _ y] at e
        cases e
    have hq6 := s6 _ _ hq
    refine ⟨_, rfl, q, CC, dx, _, rfl, hq6, TC.cl, TC.n1, (by show 0 < 1000; decide), ?_⟩
    have b7 : But q H6 (upd H6 q (.ins CC dx (putF "station" (.ref p) []))) := but_upd
    have h7 := upd_same (H := H6) (a := q) (o := .ins CC dx (putF "station" (.ref p) []))
    generalize upd H6 q (.ins CC dx (putF "station" (.ref p) [])) = H7 at *
    have n1 : q ≠ p := ne_of_none hq np
    have n2 : q ≠ ap := ne_of_none hq (fr nap)
    have n3 : q ≠ ar := ne_of_none hq (fr nar)
    have n4 : q ≠ ab := ne_of_none hq (fr nab)
    refine qq _ p ap ar ab ((Same.but s6).trans b7) np (fr nap) (fr nar) (fr nab) ⟨⟨dx, h7⟩, ?_, rfl, n1, n2⟩
    refine stnh0 (zs.keep (tk_but hq6 (by intro _ y; cases y) b7) (b7.at n1.symm) (b7.at n2.symm) (b7.at n3.symm) (b7.at n4.symm))
/-! Console.answer: slots 0:self 1:words 2:position -/
abbrev s_Console_answer : Stmt := inClass (topS 55) 2
theorem sc_Console_answer : FnScope ["self", "words", "position"] ["self", "words"] (defScope s_Console_answer) := ⟨rfl, rfl, rfl, by decide +kernel, rfl, by decide +kernel, by decide +kernel⟩
def sp_Console_answer (CC C : Addr) : Sp := fun vs H Q _ => ∃ (q p ap ar ab wa : Addr) (S : Sta) (es : List Ent) (rs : List Op) (c : Str) (args : List Str) (z : Str), vs = [.ref q, .ref wa] ∧ Con CC C H q p ap ar ab S es rs ∧ H wa = some (.lst ((c :: args).map V.str)) ∧ Ans S rs c args z ∧ ∀ H', Same H H' → Q (.str z) H'
theorem ok_Console_answer (D : DfM K CC "answer" "Console.answer" s_Console_answer) (T : Tx mg) (TS : ClsT K mg C) (TC : ClsC K mg CC) (G_format_state : Has P w K mg base 4 "format_state" ["state"] sp_format_state) (G_text_of_ranges : Has P w K mg base 1 "text_of_ranges" ["ranges"] sp_text_of_ranges) (G_number_in : Has P w K mg base 1 "number_in" ["digits"] sp_number_in)
    (G_text_of_arrivals : Has P w K mg base 7 "text_of_arrivals" ["operations"] sp_text_of_arrivals) (G_Station_current_state : HasM P w K mg base C 1 "current_state" ["self"] (sp_Station_current_state C)) (G_Station_waiting_positions : HasM P w K mg base C 1 "waiting_positions" ["self"] (sp_Station_waiting_positions C))
    (G_Station_partner_at : HasM P w K mg base C 3 "partner_at" ["self", "position"] (sp_Station_partner_at C)) (G_Station_pair_total : HasM P w K mg base C 1 "pair_total" ["self"] (sp_Station_pair_total C)) (G_Station_arrival_count : HasM P w K mg base C 1 "arrival_count" ["self"] (sp_Station_arrival_count C)) (G_Station_operations_done : HasM P w K mg base C 1 "operations_done" ["self"] (sp_Station_operations_done C)) :
    HasM P w K mg base CC 8 "answer" ["self", "words"] (sp_Console_answer CC C) := by
  refine hasM_of D sc_Console_answer (fun _ _ _ _ _ _ us hl => match us, hl with | [_, _], _ => rfl) (fun vs H Q E h => ?_) (fun f cdv A outer s₀ H vs Q E hr h => ?_)
  · obtain ⟨_, _, _, _, _, _, _, _, _, _, _, _, rfl, _⟩ := h
    rfl
  · obtain ⟨q, p, ap, ar, ab, wa, S, es, rs, c, args, z, rfl, zc, hw, an, qq⟩ := h
    obtain ⟨dxc, hq⟩ := id zc.ob
    have a0 : atI ((c :: args).map V.str) 0 = some (.str c) := atI_ofB (Int.le_refl _) rfl
    refine ⟨_, (pss_cons (ps_if (pt_cmpR op_eq (pe_ix ix_list (pv 1) pe_int (fun _ _ => rfl)) pe_str (nomark _)) (pss_one (ps_ret (pe_callH G_format_state (hr.mono (by omega)) (by rfl) (pa_cons (pe_meth0O (pe_fld (pv 0) rfl) TS.cl G_Station_current_state (hr.mono (by omega))) pa_nil)))) pss_nil)
    (pss_cons (ps_if (pt_cmpR op_eq (pe_ix ix_list (pv 1) pe_int (fun _ _ => rfl)) pe_str (nomark _)) (pss_one (ps_ret (pe_callH G_text_of_ranges (hr.mono (by omega)) (by rfl) (pa_cons (pe_meth0O (pe_fld (pv 0) rfl) TS.cl G_Station_waiting_positions (hr.mono (by omega))) pa_nil)))) pss_nil)
    (pss_cons (ps_if (pt_cmpR op_eq (pe_ix ix_list (pv 1) pe_int (fun _ _ => rfl)) pe_str (nomark _)) (pss_cons (ps_set (i := 2) sc_Console_answer.nd rfl (by first | exact Or.inl rfl | exact Or.inr rfl) (pe_methO (pe_fld (pv 0) rfl) TS.cl G_Station_partner_at (hr.mono (by omega)) (pa_cons (pe_callH G_number_in (hr.mono (by omega)) (by rfl) (pa_cons (pe_ix ix_list (pv 1) pe_int (fun _ _ => rfl)) pa_nil)) pa_nil)))
    (pss_one (ps_ret (pe_ifExp (pt_cmpR op_isN (pv 2) pe_non (nomark _)) pe_str (pe_callTy call_str_int (by rfl) T.n_str (by decide +kernel) (pa_cons (pv 2) pa_nil)))))) pss_nil)
    (pss_cons (ps_if (pt_cmpR op_eq (pe_ix ix_list (pv 1) pe_int (fun _ _ => rfl)) pe_str (nomark _)) (pss_one (ps_ret (pe_callTy call_str_int (by rfl) T.n_str (by decide +kernel) (pa_cons (pe_meth0O (pe_fld (pv 0) rfl) TS.cl G_Station_pair_total (hr.mono (by omega))) pa_nil)))) pss_nil)
    (pss_cons (ps_if (pt_cmpR op_eq (pe_ix ix_list (pv 1) pe_int (fun _ _ => rfl)) pe_str (nomark _)) (pss_one (ps_ret (pe_callTy call_str_int (by rfl) T.n_str (by decide +kernel) (pa_cons (pe_meth0O (pe_fld (pv 0) rfl) TS.cl G_Station_arrival_count (hr.mono (by omega))) pa_nil)))) pss_nil)
    (pss_one (ps_ret (pe_callH G_text_of_arrivals (hr.mono (by omega)) (by rfl) (pa_cons (pe_meth0O (pe_fld (pv 0) rfl) TS.cl G_Station_operations_done (hr.mono (by omega))) pa_nil))))))))), ?_⟩
    refine ⟨_, rfl, wa, _, 0, _, rfl, rfl, .of hw, a0, rfl, _, rfl, ?_⟩
    cases an with
    | state ok =>
      refine iteP (decide_eq_true rfl) ?_
      obtain ⟨dx1, fs1, hp1, lk1⟩ := zc.st.at nf_current_state
      refine ⟨_, rfl, q, CC, dxc, _, _, rfl, hq, TC.cl, TC.n1, fl1_get p, p, dx1, fs1, rfl, hp1, lk1, p, ap, ar, ab, S, _, rfl, zc.st, fun v hv => ?_⟩
      exact ⟨v, S.st, rfl, hv.dress, ok, fun H' s => qq _ s⟩
    | waiting ok l =>
      refine iteN (strN (by decide +kernel)) ⟨_, rfl, wa, _, 0, _, rfl, rfl, .of hw, a0, rfl, _, rfl, iteP (decide_eq_true rfl) ?_⟩
      obtain ⟨dx1, fs1, hp1, lk1⟩ := zc.st.at nf_waiting_positions
      refine ⟨_, rfl, q, CC, dxc, _, _, rfl, hq, TC.cl, TC.n1, fl1_get p, p, dx1, fs1, rfl, hp1, lk1, p, ap, ar, ab, S, _, rfl, zc.st, fun H1 l1 s1 n1 h1 => ?_⟩
      exact ⟨l1, S.R, rfl, h1, ok, l, fun H' s => qq _ (s1.trans s)⟩
    | partner n n0 nS1 n1 ok =>
      refine iteN (strN (by decide +kernel)) ⟨_, rfl, wa, _, 0, _, rfl, rfl, .of hw, a0, rfl, _, rfl, iteN (strN (by decide +kernel)) ⟨_, rfl, wa, _, 0, _, rfl, rfl, .of hw, a0, rfl, _, rfl, iteP (decide_eq_true rfl) ?_⟩⟩
      obtain ⟨dx1, fs1, hp1, lk1⟩ := zc.st.at nf_partner_at
      refine ⟨_, rfl, q, CC, dxc, _, _, rfl, hq, TC.cl, TC.n1, fl1_get p, p, dx1, fs1, rfl, hp1, lk1, ?_⟩
      refine ⟨_, rfl, wa, _, 1, _, rfl, rfl, .of hw, atI_ofB (by decide) rfl, n, rfl, n0, n1, p, ap, ar, ab, S, _, n, rfl, zc.st, n0, nS1, ?_⟩
      cases e : pgR S.B n with
      | none =>
        rw [e] at qq
        exact ⟨_, rfl, rfl, _, rfl, iteP rfl (qq _ (Same.refl _))⟩
      | some j =>
        rw [e] at qq
        obtain ⟨j0, j1⟩ := ok j e
        exact ⟨_, rfl, rfl, _, rfl, iteN rfl ⟨_, rfl, j, rfl, log_bd40 j0 (by omega), qq _ (Same.refl _)⟩⟩
    | pairs m0 m1 =>
      refine iteN (strN (by decide +kernel)) ⟨_, rfl, wa, _, 0, _, rfl, rfl, .of hw, a0, rfl, _, rfl, iteN (strN (by decide +kernel)) ⟨_, rfl, wa, _, 0, _, rfl, rfl, .of hw, a0, rfl, _, rfl, iteN (strN (by decide +kernel)) ⟨_, rfl, wa, _, 0, _, rfl, rfl, .of hw, a0, rfl, _, rfl, iteP (decide_eq_true rfl) ?_⟩⟩⟩
      obtain ⟨dx1, fs1, hp1, lk1⟩ := zc.st.at nf_pair_total
      exact ⟨_, rfl, q, CC, dxc, _, _, rfl, hq, TC.cl, TC.n1, fl1_get p, p, dx1, fs1, rfl, hp1, lk1, p, ap, ar, ab, S, _, rfl, zc.st, S.m, rfl, log_bd40 m0 (by omega), qq _ (Same.refl _)⟩
    | arrivals n0 n1 =>
      refine iteN (strN (by decide +kernel)) ⟨_, rfl, wa, _, 0, _, rfl, rfl, .of hw, a0, rfl, _, rfl, iteN (strN (by decide +kernel)) ⟨_, rfl, wa, _, 0, _, rfl, rfl, .of hw, a0, rfl, _, rfl, iteN (strN (by decide +kernel)) ⟨_, rfl, wa, _, 0, _, rfl, rfl, .of hw, a0, rfl, _, rfl, iteN (strN (by decide +kernel)) ⟨_, rfl, wa, _, 0, _, rfl, rfl, .of hw, a0, rfl, _, rfl, iteP (decide_eq_true rfl) ?_⟩⟩⟩⟩
      obtain ⟨dx1, fs1, hp1, lk1⟩ := zc.st.at nf_arrival_count
      exact ⟨_, rfl, q, CC, dxc, _, _, rfl, hq, TC.cl, TC.n1, fl1_get p, p, dx1, fs1, rfl, hp1, lk1, p, ap, ar, ab, S, _, rfl, zc.st, S.n, rfl, log_bd40 n0 (by omega), qq _ (Same.refl _)⟩
    | sequence ok1 ok2 l =>
      refine iteN (strN (by decide +kernel)) ⟨_, rfl, wa, _, 0, _, rfl, rfl, .of hw, a0, rfl, _, rfl, iteN (strN (by decide +kernel)) ⟨_, rfl, wa, _, 0, _, rfl, rfl, .of hw, a0, rfl, _, rfl, iteN (strN (by decide +kernel)) ⟨_, rfl, wa, _, 0, _, rfl, rfl, .of hw, a0, rfl, _, rfl, iteN (strN (by decide +kernel)) ⟨_, rfl, wa, _, 0, _, rfl, rfl, .of hw, a0, rfl, _, rfl, iteN (strN (by decide +kernel)) ?_⟩⟩⟩⟩
      obtain ⟨dx1, fs1, hp1, lk1⟩ := zc.st.at nf_operations_done
      refine ⟨_, rfl, q, CC, dxc, _, _, rfl, hq, TC.cl, TC.n1, fl1_get p, p, dx1, fs1, rfl, hp1, lk1, p, ap, ar, ab, S, _, rfl, zc.st, l, fun H1 l1 s1 n1 h1 => ?_⟩
      exact ⟨l1, rs, rfl, h1, ok1, ok2, fun H' s => qq _ (s1.trans s)⟩
end
end UP

set_option Elab.async false
set_option linter.all false
set_option maxRecDepth 100000
set_option maxHeartbeats 4000000
set_option pp.maxSteps 600
namespace UP
open PySem PySem.Spec PyProof.Rows L2
theorem fm_nil : FmOk [""] [] := by
  have f : Fm [] "" := ⟨by decide +kernel, fun i x c h => by simp at h⟩
  exact ⟨fun g hg => by rw [List.mem_singleton.mp hg]; exact ⟨by decide +kernel, .inr f⟩, "", List.mem_singleton.mpr rfl, f⟩
theorem tl_N : TL.tl ("N" : Str) = [78] := by decide +kernel
theorem tl_WN : TL.tl ("WN" : Str) = [87, 78] := by decide +kernel
theorem fm_N {n : Int} (n0 : 0 ≤ n) (n1 : n < 10000000000000000000000000000000000000000) : FmOk ["N"] [nS n] := by
  have f : Fm [nS n] "N" := ⟨by show 1 = ("N" : Str).length; decide +kernel, fun i x c h _ => by
    have hi := (List.getElem?_eq_some_iff.mp h).1
    have hi : i < 1 := hi
    obtain rfl : i = 0 := by omega
    cases h
    exact .inr ⟨n, rfl, n0, n1⟩⟩
  exact ⟨fun g hg => by rw [List.mem_singleton.mp hg]; exact ⟨by decide +kernel, .inr f⟩, "N", List.mem_singleton.mpr rfl, f⟩
theorem fm_W (k : Str) : FmOk ["W", "WN"] [k] := by
  have f : Fm [k] "W" := ⟨by show 1 = ("W" : Str).length; decide +kernel, fun i x c h g => by
    have hi := (List.getElem?_eq_some_iff.mp h).1
    have hi : i < 1 := hi
    obtain rfl : i = 0 := by omega
    rw [tl_W] at g
    cases g
    exact .inl rfl⟩
  refine ⟨fun g hg => ?_, "W", List.mem_cons_self .., f⟩
  rcases List.mem_cons.mp hg with e | e
  · rw [e]
    exact ⟨by decide +kernel, .inr f⟩
  · rw [List.mem_singleton.mp e]
    exact ⟨by decide +kernel, .inl (by show 1 ≠ ("WN" : Str).length; decide +kernel)⟩
theorem fm_WN (k : Str) {n : Int} (n0 : 0 ≤ n) (n1 : n < 10000000000000000000000000000000000000000) : FmOk ["W", "WN"] [k, nS n] := by
  have f : Fm [k, nS n] "WN" := ⟨by show 2 = ("WN" : Str).length; decide +kernel, fun i x c h g => by
    have hi := (List.getElem?_eq_some_iff.mp h).1
    have hi : i < 2 := hi
    rw [tl_WN] at g
    rcases (show i = 0 ∨ i = 1 by omega) with e | e
    · subst e
      cases g
      exact .inl rfl
    · subst e
      cases h
      exact .inr ⟨n, rfl, n0, n1⟩⟩
  refine ⟨fun g hg => ?_, "WN", List.mem_cons_of_mem _ (List.mem_cons_self ..), f⟩
  rcases List.mem_cons.mp hg with e | e
  · rw [e]
    exact ⟨by decide +kernel, .inl (by show 2 ≠ ("W" : Str).length; decide +kernel)⟩
  · rw [List.mem_singleton.mp e]
    exact ⟨by decide +kernel, .inr f⟩
theorem cmd_mem (c : Str) (fs : List Str) (h : cmdT.contains (c, fs) = true) : (c, fs) ∈ cmdT := List.contains_iff_mem.mp h
theorem nS_word {n : Int} (n0 : 0 ≤ n) : 32 ∉ TL.tl (nS n) ∧ TL.tl (nS n) ≠ [] := ⟨fun h => by
  have := nS_digits n0 32 h
  omega, nS_ne n0⟩
theorem kind_word {k : Str} (h : KindOk k) : 32 ∉ TL.tl k ∧ TL.tl k ≠ [] := ⟨fun hm => by
  have := kind_tl h hm
  omega, kind_ne h⟩
theorem w1 (c : Str) (h : (!(TL.tl c).contains 32 && !(TL.tl c).isEmpty) = true) : 32 ∉ TL.tl c ∧ TL.tl c ≠ [] := by
  rw [Bool.and_eq_true] at h
  refine ⟨fun m => ?_, fun e => ?_⟩
  · have := List.contains_iff_mem.mpr m
    rw [this] at h
    exact absurd h.1 (by decide)
  · rw [e] at h
    exact absurd h.2 (by decide)
/-- the words of a question -/
theorem Ans.words {S : Sta} {rs : List Op} {c : Str} {args : List Str} {z : Str} (a : Ans S rs c args z) : (∃ fs, (c, fs) ∈ cmdT ∧ FmOk fs args) ∧ (∀ x ∈ c :: args, 32 ∉ TL.tl x ∧ TL.tl x ≠ []) ∧ args.length ≤ 1 ∧ (c ≠ "arrive" ∧ c ≠ "giveup" ∧ c ≠ "undo") ∧ (Txt.join " " (c :: args)).length ≤ 100 := by
  have one : ∀ {c : Str}, (!(TL.tl c).contains 32 && !(TL.tl c).isEmpty) = true → ∀ x ∈ [c], 32 ∉ TL.tl x ∧ TL.tl x ≠ [] := fun {c} h x hx => by
    rw [List.mem_singleton.mp hx]
    exact w1 c h
  cases a with
  | state _ => exact ⟨⟨[""], cmd_mem _ _ (by decide +kernel), fm_nil⟩, one (by decide +kernel), by decide, by decide +kernel, by rw [join_one]; decide +kernel⟩
  | waiting _ _ => exact ⟨⟨[""], cmd_mem _ _ (by decide +kernel), fm_nil⟩, one (by decide +kernel), by decide, by decide +kernel, by rw [join_one]; decide +kernel⟩
  | pairs _ _ => exact ⟨⟨[""], cmd_mem _ _ (by decide +kernel), fm_nil⟩, one (by decide +kernel), by decide, by decide +kernel, by rw [join_one]; decide +kernel⟩
  | arrivals _ _ => exact ⟨⟨[""], cmd_mem _ _ (by decide +kernel), fm_nil⟩, one (by decide +kernel), by decide, by decide +kernel, by rw [join_one]; decide +kernel⟩
  | sequence _ _ _ => exact ⟨⟨[""], cmd_mem _ _ (by decide +kernel), fm_nil⟩, one (by decide +kernel), by decide, by decide +kernel, by rw [join_one]; decide +kernel⟩
  | partner n n0 _ n1 _ =>
    refine ⟨⟨["N"], cmd_mem _ _ (by decide +kernel), fm_N n0 n1⟩, fun x hx => ?_, Nat.le_refl _, by decide +kernel, ?_⟩
    · rcases List.mem_cons.mp hx with e | e
      · rw [e]
        exact w1 _ (by decide +kernel)
      · rw [List.mem_singleton.mp e]
        exact nS_word n0
    · have h1 := join_len [("partner" : Str), nS n]
      have h2 := nS_len n0 n1
      have h3 : ("partner" : Str).length = 7 := by decide +kernel
      have h4 : (([("partner" : Str), nS n]).map (·.length)).sum = ("partner" : Str).length + ((nS n).length + 0) := rfl
      rw [h4, h3] at h1
      have h5 : ([("partner" : Str), nS n]).length = 2 := rfl
      omega
theorem tl_NN : TL.tl ("NN" : Str) = [78, 78] := by decide +kernel
theorem fm_N1 {n : Int} (n0 : 0 ≤ n) (n1 : n < 10000000000000000000000000000000000000000) : FmOk ["N", "NN"] [nS n] := by
  have f : Fm [nS n] "N" := ⟨by show 1 = ("N" : Str).length; decide +kernel, fun i x c h _ => by
    have hi := (List.getElem?_eq_some_iff.mp h).1
    have hi : i < 1 := hi
    obtain rfl : i = 0 := by omega
    cases h
    exact .inr ⟨n, rfl, n0, n1⟩⟩
  refine ⟨fun g hg => ?_, "N", List.mem_cons_self .., f⟩
  rcases List.mem_cons.mp hg with e | e
  · rw [e]
    exact ⟨by decide +kernel, .inr f⟩
  · rw [List.mem_singleton.mp e]
    exact ⟨by decide +kernel, .inl (by show 1 ≠ ("NN" : Str).length; decide +kernel)⟩
theorem fm_NN {m n : Int} (m0 : 0 ≤ m) (m1 : m < 10000000000000000000000000000000000000000) (n0 : 0 ≤ n) (n1 : n < 10000000000000000000000000000000000000000) : FmOk ["N", "NN"] [nS m, nS n] := by
  have f : Fm [nS m, nS n] "NN" := ⟨by show 2 = ("NN" : Str).length; decide +kernel, fun i x c h g => by
    have hi := (List.getElem?_eq_some_iff.mp h).1
    have hi : i < 2 := hi
    rcases (show i = 0 ∨ i = 1 by omega) with e | e
    · subst e
      cases h
      exact .inr ⟨m, rfl, m0, m1⟩
    · subst e
      cases h
      exact .inr ⟨n, rfl, n0, n1⟩⟩
  refine ⟨fun g hg => ?_, "NN", List.mem_cons_of_mem _ (List.mem_cons_self ..), f⟩
  rcases List.mem_cons.mp hg with e | e
  · rw [e]
    exact ⟨by decide +kernel, .inl (by show 2 ≠ ("N" : Str).length; decide +kernel)⟩
  · rw [List.mem_singleton.mp e]
    exact ⟨by decide +kernel, .inr f⟩
/-- a word and perhaps a number -/
def ArgN (args : List Str) (k : Str) (n : Int) : Prop := args = [k, nS n] ∨ (args = [k] ∧ n = 1)
theorem arg_ok {c k : Str} {args : List Str} {n : Int} (ha : ArgN args k n) (cw : 32 ∉ TL.tl c ∧ TL.tl c ≠ []) (cl : c.length ≤ 10) (kw : 32 ∉ TL.tl k ∧ TL.tl k ≠ []) (kl : k.length ≤ 1000) (n0 : 0 ≤ n) (n1 : n < 10000000000000000000000000000000000000000) :
    (∀ x ∈ c :: args, 32 ∉ TL.tl x ∧ TL.tl x ≠ []) ∧ args.length ≤ 100 ∧ (Txt.join " " (c :: args)).length ≤ 90000 ∧ args[0]? = some k := by
  have nl := nS_len n0 n1
  rcases ha with e | ⟨e, e1⟩
  · subst e
    refine ⟨fun x hx => ?_, by show 2 ≤ 100; decide, ?_, rfl⟩
    · rcases List.mem_cons.mp hx with e | hx
      · rw [e]
        exact cw
      · rcases List.mem_cons.mp hx with e | hx
        · rw [e]
          exact kw
        · rw [List.mem_singleton.mp hx]
          exact nS_word n0
    · have h1 := join_len [c, k, nS n]
      have h4 : (([c, k, nS n]).map (·.length)).sum = c.length + (k.length + ((nS n).length + 0)) := rfl
      rw [h4] at h1
      have h5 : ([c, k, nS n]).length = 3 := rfl
      omega
  · subst e
    refine ⟨fun x hx => ?_, by show 1 ≤ 100; decide, ?_, rfl⟩
    · rcases List.mem_cons.mp hx with e | hx
      · rw [e]
        exact cw
      · rw [List.mem_singleton.mp hx]
        exact kw
    · have h1 := join_len [c, k]
      have h4 : (([c, k]).map (·.length)).sum = c.length + (k.length + 0) := rfl
      rw [h4] at h1
      have h5 : ([c, k]).length = 2 := rfl
      omega
theorem nf_undo : NotF "undo" := ⟨by decide +kernel, by decide +kernel, by decide +kernel, by decide +kernel, by decide +kernel, by decide +kernel⟩
theorem w_arrive : 32 ∉ TL.tl ("arrive" : Str) ∧ TL.tl ("arrive" : Str) ≠ [] := w1 _ (by decide +kernel)
theorem w_giveup : 32 ∉ TL.tl ("giveup" : Str) ∧ TL.tl ("giveup" : Str) ≠ [] := w1 _ (by decide +kernel)
theorem one_word {c : Str} (cw : 32 ∉ TL.tl c ∧ TL.tl c ≠ []) : ∀ x ∈ [c], 32 ∉ TL.tl x ∧ TL.tl x ≠ [] := fun x hx => by
  rw [List.mem_singleton.mp hx]
  exact cw
section
variable {P : Program} {w : World} {K : PySem.W.Frag} {mg : Str → Option Value} {base : Heap} {C CC aC : Addr}
/-! Console.execute: slots 0:self 1:line 2:words 3:count -/
abbrev s_Console_execute : Stmt := inClass (topS 55) 1
theorem sc_Console_execute : FnScope ["self", "line", "words", "count"] ["self", "line"] (defScope s_Console_execute) := ⟨rfl, rfl, rfl, by decide +kernel, rfl, by decide +kernel, by decide +kernel⟩
def sp_Console_execute (CC C : Addr) : Sp := fun vs H Q _ => ∃ (q p ap ar ab : Addr) (S : Sta) (es : List Ent) (rs : List Op) (c : Str) (args : List Str), vs = [.ref q, .str (Txt.join " " (c :: args))] ∧ Con CC C H q p ap ar ab S es rs ∧
  ((∃ z, Ans S rs c args z ∧ ∀ H', Same H H' → Q (.str z) H') ∨
   (∃ (k : Str) (n : Int), c = "arrive" ∧ ArgN args k n ∧ KindOk k ∧ 1 ≤ n ∧ n ≤ 1000000000000000000000000000000 ∧ S.R.length ≤ 5000 ∧ S.B.length ≤ 400000 ∧ rs.length ≤ 40000 ∧ 0 ≤ leavR S.st k n ∧ leavR S.st k n < 10000000000000000000000000000000000000000 ∧
      ∀ H' ar' ab', Fr p ap H H' → H ar' = none → H ab' = none → Con CC C H' q p ap ar' ab' (arrS S k n) (es ++ [⟨opR (k, n), S, ar, ab⟩]) (rs ++ [opR (k, n)]) → Q (.str (nS (leavR S.st k n))) H') ∨
   (∃ (i n : Int) (k : Str) (z : Rg), c = "giveup" ∧ ArgN args (nS i) n ∧ S.st = some (k, numR S.st) ∧ 0 ≤ i ∧ 1 ≤ n ∧ i + n ≤ numR S.st ∧ numR S.st < 10000000000000000000000000000000000000000 ∧ (wfR S.R i).head? = some z ∧ 0 ≤ z.1 ∧ z.1 < 10000000000000000000000000000000000000000 ∧ S.R.length ≤ 5000 ∧ rs.length ≤ 40000 ∧
      ∀ H' ar', Fr p ap H H' → H ar' = none → Con CC C H' q p ap ar' ab (givS S i n k) (es ++ [⟨(("give_up" : Str), .inl i, n), S, ar, ab⟩]) (rs ++ [(("give_up" : Str), .inl i, n)]) → Q (.str (nS z.1)) H') ∨
   (c = "undo" ∧ args = [] ∧ ∃ es' e rs' r, es = es' ++ [e] ∧ rs = rs' ++ [r] ∧ ∀ H', Fr p ap H H' → Con CC C H' q p ap e.ar e.ab e.S es' rs' → Q (.str "ok") H'))
theorem ok_Console_execute (D : DfM K CC "execute" "Console.execute" s_Console_execute) (T : Tx mg) (TS : ClsT K mg C) (TC : ClsC K mg CC) (G_checked_words : Has P w K mg base 4 "checked_words" ["line"] sp_checked_words) (G_number_in : Has P w K mg base 1 "number_in" ["digits"] sp_number_in) (G_Console_answer : HasM P w K mg base CC 8 "answer" ["self", "words"] (sp_Console_answer CC C))
    (G_Station_arrive : HasMD P w K mg base C 3 "arrive" ["self", "kind", "count"] 2 "count" (.int 1) (sp_Station_arrive C)) (G_Station_give_up : HasMD P w K mg base C 3 "give_up" ["self", "index", "count"] 2 "count" (.int 1) (sp_Station_give_up C)) (G_Station_undo : HasM P w K mg base C 1 "undo" ["self"] (sp_Station_undo C)) :
    HasM P w K mg base CC 9 "execute" ["self", "line"] (sp_Console_execute CC C) := by
  refine hasM_of D sc_Console_execute (fun _ _ _ _ _ _ us hl => match us, hl with | [_, _], _ => rfl) (fun vs H Q E h => ?_) (fun f cdv A outer s₀ H vs Q E hr h => ?_)
  · obtain ⟨_, _, _, _, _, _, _, _, _, _, rfl, _⟩ := h
    rfl
  · obtain ⟨q, p, ap, ar, ab, S, es, rs, c, args, rfl, zc, h⟩ := h
    refine ⟨_, (pss_cons (ps_set (i := 2) sc_Console_execute.nd rfl (by first | exact Or.inl rfl | exact Or.inr rfl) (pe_callH G_checked_words (hr.mono (by omega)) (by rfl) (pa_cons (pv 1) pa_nil)))
    (C8.pss_cut (ps_set (i := 3) sc_Console_execute.nd rfl (by first | exact Or.inl rfl | exact Or.inr rfl) (pe_ifExp (pt_cmpR op_eq (pe_callB call_len_seq (by rfl) T.n_len (by decide +kernel) (pa_cons (pv 2) pa_nil)) pe_int (nomark _)) (pe_callH G_number_in (hr.mono (by omega)) (by rfl) (pa_cons (pe_ix ix_list (pv 2) pe_int (fun _ _ => rfl)) pa_nil)) pe_int))
    (pss_cons (ps_if (pt_cmpR op_eq (pe_ix ix_list (pv 2) pe_int (fun _ _ => rfl)) pe_str (nomark _)) (pss_one (ps_ret (pe_callTy call_str_int (by rfl) T.n_str (by decide +kernel) (pa_cons (pe_methFO (pe_fld (pv 0) rfl) TS.cl G_Station_arrive (hr.mono (by omega)) (pa_cons (pe_ix ix_list (pv 2) pe_int (fun _ _ => rfl)) (pa_cons (pv 3) pa_nil))) pa_nil)))) pss_nil)
    (pss_cons (ps_if (pt_cmpR op_eq (pe_ix ix_list (pv 2) pe_int (fun _ _ => rfl)) pe_str (nomark _)) (pss_one (ps_ret (pe_callTy call_str_int (by rfl) T.n_str (by decide +kernel) (pa_cons (pe_methFO (pe_fld (pv 0) rfl) TS.cl G_Station_give_up (hr.mono (by omega)) (pa_cons (pe_callH G_number_in (hr.mono (by omega)) (by rfl) (pa_cons (pe_ix ix_list (pv 2) pe_int (fun _ _ => rfl)) pa_nil)) (pa_cons (pv 3) pa_nil))) pa_nil)))) pss_nil)
    (pss_cons (ps_if (pt_cmpR op_eq (pe_ix ix_list (pv 2) pe_int (fun _ _ => rfl)) pe_str (nomark _)) (pss_cons (ps_expr (pe_meth0O (pe_fld (pv 0) rfl) TS.cl G_Station_undo (hr.mono (by omega))))
    (pss_one (ps_ret pe_str))) pss_nil)
    (pss_one (ps_ret (pe_methO (pv 0) TC.cl G_Console_answer (hr.mono (by omega)) (pa_cons (pv 2) pa_nil))))))))), ?_⟩
    rcases h with ⟨z, an, qq⟩ | ⟨k, n, rfl, ea, kk, n1, n2, lR, lB, lO, v0, v1, qq⟩ | ⟨i, n, k, z, rfl, ea, est, i0, n1, il, nb, hz, z0, z1, lR, lO, qq⟩ | ⟨rfl, rfl, es', e, rs', r, rfl, rfl, qq⟩
    · obtain ⟨⟨fs, mem, fm⟩, ok, la, ⟨c1, c2, c3⟩, ll⟩ := an.words
      refine ⟨_, rfl, c, args, fs, rfl, mem, fm, ok, by omega, by omega, fun H1 wa s1 nwa hw => ?_⟩
      have zc1 := zc.same s1
      obtain ⟨dxc, hq⟩ := id zc1.ob
      have a0 : atI ((c :: args).map V.str) 0 = some (.str c) := atI_ofB (Int.le_refl _) rfl
      refine ⟨fun σ' H' => σ' = [some (.ref q), some (.str (Txt.join " " (c :: args))), some (.ref wa), some (.int 1)] ∧ H' = H1, ?_, fun σ' H2 hM => ?_⟩
      · refine ⟨_, rfl, wa, _, rfl, .inl (.of hw), rfl, _, rfl, iteN (decide_eq_false fun e => ?_) ⟨rfl, rfl⟩⟩
        have e := V.int.inj e
        rw [List.length_map, List.length_cons] at e
        omega
      obtain ⟨rfl, rfl⟩ := hM
      refine ⟨_, rfl, wa, _, 0, _, rfl, rfl, .of hw, a0, rfl, _, rfl, iteN (strN c1) ⟨_, rfl, wa, _, 0, _, rfl, rfl, .of hw, a0, rfl, _, rfl, iteN (strN c2) ⟨_, rfl, wa, _, 0, _, rfl, rfl, .of hw, a0, rfl, _, rfl, iteN (strN c3) ?_⟩⟩⟩
      exact ⟨_, rfl, q, dxc, fl1 p, rfl, hq, fl1_no p (by decide +kernel), _, rfl, q, p, ap, ar, ab, wa, S, es, rs, c, args, z, rfl, zc1, hw, an, fun H' s => qq _ (s1.trans s)⟩
    · obtain ⟨ok, la, ll, ek⟩ := arg_ok ea w_arrive (by decide +kernel) (kind_word kk) (by have := kk.2.1; omega) (by omega) (by omega)
      have fm : FmOk ["W", "WN"] args := by
        rcases ea with e | ⟨e, e1⟩
        · rw [e]
          exact fm_WN k (by omega) (by omega)
        · rw [e]
          exact fm_W k
      refine ⟨_, rfl, "arrive", args, ["W", "WN"], rfl, cmd_mem _ _ (by decide +kernel), fm, ok, by omega, by omega, fun H1 wa s1 nwa hw => ?_⟩
      have zc1 := zc.same s1
      obtain ⟨dxc, hq⟩ := id zc1.ob
      have a0 : atI ((("arrive" : Str) :: args).map V.str) 0 = some (.str "arrive") := atI_ofB (Int.le_refl _) rfl
      have a1 : atI ((("arrive" : Str) :: args).map V.str) 1 = some (.str k) := atI_ofB (by decide) (by show (args.map V.str)[0]? = _; rw [List.getElem?_map, ek]; rfl)
      refine ⟨fun σ' H' => σ' = [some (.ref q), some (.str (Txt.join " " (("arrive" : Str) :: args))), some (.ref wa), some (.int n)] ∧ H' = H1, ?_, fun σ' H2 hM => ?_⟩
      · rcases ea with e | ⟨e, e1⟩
        · subst e
          refine ⟨_, rfl, wa, _, rfl, .inl (.of hw), rfl, _, rfl, iteP (decide_eq_true rfl) ?_⟩
          exact ⟨_, rfl, wa, _, 2, _, rfl, rfl, .of hw, atI_ofB (by decide) rfl, n, rfl, by omega, by omega, rfl, rfl⟩
        · subst e e1
          exact ⟨_, rfl, wa, _, rfl, .inl (.of hw), rfl, _, rfl, iteN (decide_eq_false fun e => by cases V.int.inj e) ⟨rfl, rfl⟩⟩
      obtain ⟨rfl, rfl⟩ := hM
      refine ⟨_, rfl, wa, _, 0, _, rfl, rfl, .of hw, a0, rfl, _, rfl, iteP (decide_eq_true rfl) ?_⟩
      obtain ⟨dx1, fs1, hp1, lk1⟩ := zc1.st.at nf_arrive
      have le : es.length = rs.length := by
        have := congrArg List.length zc.eo
        rw [List.length_map] at this
        exact this
      refine ⟨_, rfl, q, CC, dxc, _, _, rfl, hq, TC.cl, TC.n1, fl1_get p, p, dx1, fs1, rfl, hp1, lk1, _, rfl, wa, _, 1, _, rfl, rfl, .of hw, a1, _, rfl, ?_⟩
      refine ⟨p, ap, ar, ab, S, es, k, n, rfl, zc1.sh, kk, n1, n2, by omega, by omega, by omega, fun H3 ar' ab' f na nb z' => ?_⟩
      refine ⟨_, rfl, log_bd40 v0 (by omega), qq H3 ar' ab' (fun b o m1 m2 e => f _ _ m1 m2 (s1 _ _ e)) (s1.free na) (s1.free nb) ⟨⟨dxc, f _ _ zc1.ne.1 zc1.ne.2 hq⟩, z', ?_, zc1.ne⟩⟩
      rw [List.map_append, zc.eo]
      rfl
    · have nw := nS_word (n := i) i0
      obtain ⟨ok, la, ll, ek⟩ := arg_ok ea w_giveup (by decide +kernel) nw (by have := nS_len (n := i) i0 (by omega); omega) (by omega) (by omega)
      have fm : FmOk ["N", "NN"] args := by
        rcases ea with e | ⟨e, e1⟩
        · rw [e]
          exact fm_NN i0 (by omega) (by omega) (by omega)
        · rw [e]
          exact fm_N1 i0 (by omega)
      refine ⟨_, rfl, "giveup", args, ["N", "NN"], rfl, cmd_mem _ _ (by decide +kernel), fm, ok, by omega, by omega, fun H1 wa s1 nwa hw => ?_⟩
      have zc1 := zc.same s1
      obtain ⟨dxc, hq⟩ := id zc1.ob
      have a0 : atI ((("giveup" : Str) :: args).map V.str) 0 = some (.str "giveup") := atI_ofB (Int.le_refl _) rfl
      have a1 : atI ((("giveup" : Str) :: args).map V.str) 1 = some (.str (nS i)) := atI_ofB (by decide) (by show (args.map V.str)[0]? = _; rw [List.getElem?_map, ek]; rfl)
      refine ⟨fun σ' H' => σ' = [some (.ref q), some (.str (Txt.join " " (("giveup" : Str) :: args))), some (.ref wa), some (.int n)] ∧ H' = H1, ?_, fun σ' H2 hM => ?_⟩
      · rcases ea with e | ⟨e, e1⟩
        · subst e
          refine ⟨_, rfl, wa, _, rfl, .inl (.of hw), rfl, _, rfl, iteP (decide_eq_true rfl) ?_⟩
          exact ⟨_, rfl, wa, _, 2, _, rfl, rfl, .of hw, atI_ofB (by decide) rfl, n, rfl, by omega, by omega, rfl, rfl⟩
        · subst e e1
          exact ⟨_, rfl, wa, _, rfl, .inl (.of hw), rfl, _, rfl, iteN (decide_eq_false fun e => by cases V.int.inj e) ⟨rfl, rfl⟩⟩
      obtain ⟨rfl, rfl⟩ := hM
      refine ⟨_, rfl, wa, _, 0, _, rfl, rfl, .of hw, a0, rfl, _, rfl, iteN (strN (by decide +kernel)) ⟨_, rfl, wa, _, 0, _, rfl, rfl, .of hw, a0, rfl, _, rfl, iteP (decide_eq_true rfl) ?_⟩⟩
      obtain ⟨dx1, fs1, hp1, lk1⟩ := zc1.st.at nf_give_up
      have le : es.length = rs.length := by
        have := congrArg List.length zc.eo
        rw [List.length_map] at this
        exact this
      refine ⟨_, rfl, q, CC, dxc, _, _, rfl, hq, TC.cl, TC.n1, fl1_get p, p, dx1, fs1, rfl, hp1, lk1, _, rfl, wa, _, 1, _, rfl, rfl, .of hw, a1, i, rfl, i0, by omega, _, rfl, p, ap, ar, ab, S, es, k, i, n, z, rfl, zc1.sh, est, i0, n1, il, hz, by omega, by omega, fun H3 ar' f na z' => ?_⟩
      refine ⟨_, rfl, log_bd40 z0 (by omega), qq H3 ar' (fun b o m1 m2 e => f _ _ m1 m2 (s1 _ _ e)) (s1.free na) ⟨⟨dxc, f _ _ zc1.ne.1 zc1.ne.2 hq⟩, z', ?_, zc1.ne⟩⟩
      rw [List.map_append, zc.eo]
      rfl
    · refine ⟨_, rfl, "undo", [], [""], rfl, cmd_mem _ _ (by decide +kernel), fm_nil, one_word (w1 _ (by decide +kernel)), Nat.zero_le _, by rw [join_one]; decide +kernel, fun H1 wa s1 nwa hw => ?_⟩
      have zc1 := zc.same s1
      obtain ⟨dxc, hq⟩ := id zc1.ob
      have a0 : atI ((("undo" : Str) :: []).map V.str) 0 = some (.str "undo") := atI_ofB (Int.le_refl _) rfl
      refine ⟨fun σ' H' => σ' = [some (.ref q), some (.str (Txt.join " " (("undo" : Str) :: []))), some (.ref wa), some (.int 1)] ∧ H' = H1, ?_, fun σ' H2 hM => ?_⟩
      · exact ⟨_, rfl, wa, _, rfl, .inl (.of hw), rfl, _, rfl, iteN (decide_eq_false fun e => by cases V.int.inj e) ⟨rfl, rfl⟩⟩
      obtain ⟨rfl, rfl⟩ := hM
      obtain ⟨dx1, fs1, hp1, lk1⟩ := zc1.st.at nf_undo
      refine ⟨_, rfl, wa, _, 0, _, rfl, rfl, .of hw, a0, rfl, _, rfl, iteN (strN (by decide +kernel)) ⟨_, rfl, wa, _, 0, _, rfl, rfl, .of hw, a0, rfl, _, rfl, iteN (strN (by decide +kernel)) ⟨_, rfl, wa, _, 0, _, rfl, rfl, .of hw, a0, rfl, _, rfl, iteP (decide_eq_true rfl) ?_⟩⟩⟩
      refine ⟨_, rfl, q, CC, dxc, _, _, rfl, hq, TC.cl, TC.n1, fl1_get p, p, dx1, fs1, rfl, hp1, lk1, p, ap, ar, ab, S, es', e, rfl, zc1.sh, fun H3 f z' => ?_⟩
      refine qq H3 (fun b o m1 m2 e => f _ _ m1 m2 (s1 _ _ e)) ⟨⟨dxc, f _ _ zc1.ne.1 zc1.ne.2 hq⟩, z', ?_, zc1.ne⟩
      have eo := zc.eo
      rw [List.map_append] at eo
      exact (List.append_inj' eo rfl).1
end
end UP

set_option Elab.async false
set_option linter.all false
set_option maxRecDepth 100000
set_option maxHeartbeats 4000000
set_option pp.maxSteps 600
namespace UP
open PySem PySem.Spec PyProof.Rows L2
def KSt (st : Option Run) : Prop := ∀ r, st = some r → KindOk r.1
theorem mr0 : MR ⟨"", [], [], 0, 0⟩ ⟨none, [], 0, 0, []⟩ := ⟨rfl, rfl, True.intro, rfl, rfl, rfl, (fun x h => by cases h), rfl, ⟨⟨(fun p h => by cases h), (fun p h => by cases h), (fun p h => by cases h)⟩, List.nodup_nil, (fun x h => by cases h), (fun x h => by cases h), (fun x h => by cases h), Int.le_refl _⟩⟩
/-- all that waits is of an allowed kind -/
def KM (M : Mod) : Prop := M.q ≠ [] → KindOk M.k
theorem KM.one {M : Mod} {k : Str} (h : KM M) (kk : KindOk k) : KM (oneM M k) := by
  unfold oneM
  split
  · exact fun _ => kk
  · rename_i hn
    exact fun _ => h fun z => hn (.inl z)
theorem KM.arr {M : Mod} {k : Str} (h : KM M) (kk : KindOk k) : ∀ n, KM (arrM M k n)
  | 0 => h
  | n + 1 => (KM.arr h kk n).one kk
theorem KM.lev {M : Mod} (h : KM M) (i n : Nat) : KM (levM M i n) := fun z => h fun e => z (by
  show M.q.take i ++ M.q.drop (i + n) = []
  rw [e, List.take_nil, List.drop_nil]
  rfl)
theorem MR.kst {M : Mod} {S : Sta} (h : MR M S) (k : KM M) : KSt S.st := by
  intro r hr
  rw [h.st] at hr
  split at hr
  · cases hr
  · rename_i z
    cases hr
    exact k z
def m0 : Mod := ⟨"", [], [], 0, 0⟩
/-- the partner's partner -/
theorem MR.back {M : Mod} {S : Sta} (h : MR M S) {i j : Int} (e : pgR S.B i = some j) : pgR S.B j = some i ∧ 0 ≤ j ∧ j < S.n := by
  have u : U (flB S.B) := by
    rw [h.fb]
    exact h.ok.u
  have bd : ∀ p ∈ flB S.B, (0 ≤ p.1 ∧ p.1 < S.n) ∧ 0 ≤ p.2 ∧ p.2 < S.n := by
    rw [h.fb, h.n]
    exact h.ok.pb
  by_cases h1 : ∃ p ∈ flB S.B, p.1 = i
  · obtain ⟨p, hp, em⟩ := h1
    rw [← em, pg_first S.B p h.pb u hp] at e
    have e := Option.some.inj e
    rw [← e, pg_second S.B p h.pb u hp, em]
    exact ⟨rfl, (bd p hp).2⟩
  · by_cases h2 : ∃ p ∈ flB S.B, p.2 = i
    · obtain ⟨p, hp, em⟩ := h2
      rw [← em, pg_second S.B p h.pb u hp] at e
      have e := Option.some.inj e
      rw [← e, pg_first S.B p h.pb u hp, em]
      exact ⟨rfl, (bd p hp).1⟩
    · have no : ∀ p ∈ flB S.B, p.1 ≠ i ∧ p.2 ≠ i := fun p hp => ⟨fun z => h1 ⟨p, hp, z⟩, fun z => h2 ⟨p, hp, z⟩⟩
      rw [pg_none S.B i h.pb no] at e
      cases e
theorem eqv_strs (ks : List Str) : PyData.eqv (.list (ks.map PyData.str)) (.list (ks.map PyData.str)) = true := by
  have gen : ∀ (ks : List Str), PyData.eqvAll (ks.map PyData.str) (ks.map PyData.str) = true := by
    intro rs
    induction rs with
    | nil => rfl
    | cons r t ih =>
      rw [List.map_cons, PyData.eqvAll, ih]
      simp [PyData.eqv]
  rw [PyData.eqv]
  exact gen ks
theorem dp_strs {K : PySem.W.Frag} {H : Hp} : ∀ (ks : List Str), DpAll K H (ks.map V.str) (ks.map PyData.str)
  | [] => .nil
  | k :: t => .cons (.str k) (dp_strs t)
def StrG (k : Str) : Prop := PyData.canLay0 (.str k) = true
theorem shaped_strs {ks : List Str} (h : ∀ k ∈ ks, StrG k) : SeqAt.shaped (.list (ks.map PyData.str)) = true := by
  have can : ∀ (ks : List Str), (∀ k ∈ ks, StrG k) → PyData.canLayAll0 (ks.map PyData.str) = true := by
    intro ks
    induction ks with
    | nil => intro _; rfl
    | cons k t ih =>
      intro h
      rw [List.map_cons, PyData.canLayAll0, ih fun x hx => h x (List.mem_cons_of_mem _ hx), show PyData.canLay0 (.str k) = true from h k (List.mem_cons_self ..)]
      rfl
  have dep : ∀ (ks : List Str), PyData.depthAll (ks.map PyData.str) ≤ 1 := by
    intro ks
    induction ks with
    | nil => exact Nat.zero_le _
    | cons k t ih =>
      rw [List.map_cons, PyData.depthAll]
      exact Nat.max_le.mpr ⟨by rw [PyData.depth]; omega, ih⟩
  unfold SeqAt.shaped
  rw [PyData.canLay0, can ks h, PyData.depth]
  have := dep ks
  exact decide_eq_true (by omega)
theorem gd_all {b c : Int} : ∀ {R : List Rg}, Gd R b → (∀ x ∈ flR R, 0 ≤ x ∧ x < c) → ∀ p ∈ R, 0 ≤ p.1 ∧ p.1 ≤ p.2 ∧ p.2 < b
  | [], _, _, p, h => by cases h
  | q :: t, g, f, p, h => by
    rcases List.mem_cons.mp h with e | e
    · rw [e]
      refine ⟨?_, g.1, g.2.1⟩
      have h1 := g.1
      refine (f q.1 ?_).1
      rw [flR_cons]
      refine List.mem_append.mpr (.inl ?_)
      unfold flP
      obtain ⟨n, hn⟩ : ∃ n : Nat, (q.2 - q.1 + 1).toNat = n + 1 := ⟨(q.2 - q.1).toNat, by omega⟩
      rw [hn]
      exact List.mem_cons_self ..
    · exact gd_all g.2.2.2 (fun x hx => f x (by rw [flR_cons]; exact List.mem_append.mpr (.inr hx))) p e
theorem MR.rgb {M : Mod} {S : Sta} (h : MR M S) (b : S.n ≤ 10000000000000000000000000000000000000000) : ∀ p ∈ S.R, RgB p := fun p hp => by
  have hn := h.n
  have g := gd_all h.gd (c := M.c) (by rw [h.fl]; exact h.ok.qb) p hp
  exact ⟨g.1, by omega, by omega, by omega⟩
theorem leav_le {st : Option Run} {k : Str} {c : Int} (h : PosO st) (hc : 0 ≤ c) : 0 ≤ leavR st k c ∧ leavR st k c ≤ c := by
  cases st with
  | none => exact ⟨Int.le_refl _, hc⟩
  | some r =>
    have := h r rfl
    unfold leavR
    dsimp only
    split
    · omega
    · split <;> omega
theorem strG_of {s : Str} (h : ∀ c ∈ TL.tl s, c < 1000) : StrG s := by
  unfold StrG
  rw [PyData.canLay0]
  unfold PyData.strOk
  rw [Array.all_eq_true']
  intro c hc
  have := h c (by simpa [TL.tl] using hc)
  exact decide_eq_true (by omega)
theorem MR.posO {M : Mod} {S : Sta} (h : MR M S) : PosO S.st := fun r hr => by
  have e := h.st
  rw [hr] at e
  split at e
  · cases e
  · rename_i hq
    have e := Option.some.inj e
    rw [e]
    have : 0 < M.q.length := List.length_pos_iff.mpr hq
    show 1 ≤ (M.q.length : Int)
    omega
def Own (ar ab : Addr) (es : List Ent) (x : Addr) : Prop := x = ar ∨ x = ab ∨ ∃ e ∈ es, x = e.ar ∨ x = e.ab
theorem StnH.own {C : Addr} {H : Hp} {p ap ar ab : Addr} {S : Sta} {es : List Ent} (z : StnH C H p ap ar ab S es) {x : Addr} (h : Own ar ab es x) : ∃ l, H x = some (.lst l) := by
  rcases h with rfl | rfl | ⟨e, he, h⟩
  · obtain ⟨l, h, _⟩ := z.rg
    exact ⟨l, h⟩
  · obtain ⟨l, h, _⟩ := z.bl
    exact ⟨l, h⟩
  · obtain ⟨xs, _, hp⟩ := z.ps
    have := ents_lst hp e he
    rcases h with rfl | rfl
    · exact this.1
    · exact this.2
theorem StnH.keepO {C : Addr} {H H' : Hp} {p ap ar ab : Addr} {S : Sta} {es : List Ent} (z : StnH C H p ap ar ab S es) (k : Tk H H') (k1 : ∀ o, H p = some o → H' p = some o) (k2 : ∀ o, H ap = some o → H' ap = some o) (ko : ∀ x, Own ar ab es x → ∀ o, H x = some o → H' x = some o) : StnH C H' p ap ar ab S es :=
  z.keep k k1 k2 (ko _ (.inl rfl)) (ko _ (.inr (.inl rfl))) fun e he => ⟨ko _ (.inr (.inr ⟨e, he, .inl rfl⟩)), ko _ (.inr (.inr ⟨e, he, .inr rfl⟩))⟩
theorem StnH.p_i {C : Addr} {H : Hp} {p ap ar ab : Addr} {S : Sta} {es : List Ent} (z : StnH C H p ap ar ab S es) : ∃ d f, H p = some (.ins C d f) := by
  obtain ⟨⟨dx, v, hp, _⟩, _⟩ := z
  exact ⟨_, _, hp⟩
theorem StnH.ap_l {C : Addr} {H : Hp} {p ap ar ab : Addr} {S : Sta} {es : List Ent} (z : StnH C H p ap ar ab S es) : ∃ l, H ap = some (.lst l) := by
  obtain ⟨xs, h, _⟩ := z.ps
  exact ⟨xs, h⟩
theorem own_undo {ar ab : Addr} {es : List Ent} {e : Ent} {x : Addr} (h : Own e.ar e.ab es x) : Own ar ab (es ++ [e]) x := by
  have m : e ∈ es ++ [e] := List.mem_append.mpr (.inr (List.mem_singleton.mpr rfl))
  rcases h with h | h | ⟨f, hf, h⟩
  · exact .inr (.inr ⟨e, m, .inl h⟩)
  · exact .inr (.inr ⟨e, m, .inr h⟩)
  · exact .inr (.inr ⟨f, List.mem_append.mpr (.inl hf), h⟩)
/-! ### arrivals that are joined -/
def lenS (rs : List Run) : Int := (rs.map (·.2)).sum
theorem lenS_app (a b : List Run) : lenS (a ++ b) = lenS a + lenS b := by
  unfold lenS
  rw [List.map_append, List.sum_append]
structure JnOk (rs : List Run) (n : Nat) (m : Int) : Prop where
  ok : ∀ r ∈ rs, KindOk r.1 ∧ 1 ≤ r.2
  alt : Alt rs
  len : rs.length ≤ n
  sum : lenS rs = m
theorem sum_ge : ∀ {rs : List Run}, (∀ r ∈ rs, KindOk r.1 ∧ 1 ≤ r.2) → 0 ≤ lenS rs ∧ ∀ r ∈ rs, r.2 ≤ lenS rs
  | [], _ => ⟨Int.le_refl _, fun r h => by cases h⟩
  | x :: t, h => by
    obtain ⟨i1, i2⟩ := sum_ge (rs := t) fun r hr => h r (List.mem_cons_of_mem _ hr)
    have hx := (h x (List.mem_cons_self ..)).2
    have e : lenS (x :: t) = x.2 + lenS t := by
      unfold lenS
      rw [List.map_cons, List.sum_cons]
    rw [e]
    refine ⟨by omega, fun r hr => ?_⟩
    rcases List.mem_cons.mp hr with z | z
    · rw [z]
      omega
    · have := i2 r z
      omega
theorem alt_kinds {rs hs : List Run} (h : hs.map (·.1) = rs.map (·.1)) (a : Alt rs) : Alt hs := by
  intro i x y hx hy
  have e : ∀ j : Nat, (hs[j]?).map (fun r : Run => r.1) = (rs[j]?).map (fun r : Run => r.1) := fun j => by
    have := congrArg (fun l : List Str => l[j]?) h
    simp only [List.getElem?_map] at this
    exact this
  have e1 := e i
  have e2 := e (i + 1)
  rw [hx] at e1
  rw [hy] at e2
  cases hx' : rs[i]? with
  | none =>
    rw [hx'] at e1
    cases e1
  | some u =>
    cases hy' : rs[i + 1]? with
    | none =>
      rw [hy'] at e2
      cases e2
    | some v =>
      rw [hx'] at e1
      rw [hy'] at e2
      have e1 : x.1 = u.1 := Option.some.inj e1
      have e2 : y.1 = v.1 := Option.some.inj e2
      rw [e1, e2]
      exact a i u v hx' hy'
theorem JnOk.add {rs : List Run} {n : Nat} {m : Int} (h : JnOk rs n m) {r : Run} (kk : KindOk r.1) (r1 : 1 ≤ r.2) : JnOk (addR rs r) (n + 1) (m + r.2) := by
  obtain ⟨ok, alt, len, sum⟩ := h
  unfold addR
  rcases List.eq_nil_or_concat rs with e | ⟨t, l, e⟩
  · subst e
    refine ⟨fun x hx => ?_, fun i x y hx hy => by simp at hy, by show 1 ≤ n + 1; omega, ?_⟩
    · rw [List.mem_singleton.mp (show x ∈ [r] from hx)]
      exact ⟨kk, r1⟩
    · rw [← sum]
      show r.2 + 0 = 0 + r.2
      omega
  · rw [List.concat_eq_append] at e
    subst e
    rw [List.getLast?_concat]
    dsimp only
    have hl := ok l (List.mem_append.mpr (.inr (List.mem_singleton.mpr rfl)))
    rw [lenS_app] at sum
    have sl : lenS [l] = l.2 := by show l.2 + 0 = l.2; omega
    by_cases c : l.1 = r.1
    · rw [if_pos c, List.dropLast_concat]
      refine ⟨fun x hx => ?_, ?_, ?_, ?_⟩
      · rcases List.mem_append.mp hx with z | z
        · exact ok x (List.mem_append.mpr (.inl z))
        · rw [List.mem_singleton.mp z]
          exact ⟨kk, by show 1 ≤ l.2 + r.2; omega⟩
      · refine alt_kinds ?_ alt
        rw [List.map_append, List.map_append]
        show _ ++ [r.1] = _ ++ [l.1]
        rw [c]
      · rw [List.length_append] at len ⊢
        show t.length + 1 ≤ n + 1
        have : t.length + 1 ≤ n := len
        omega
      · rw [lenS_app]
        have : lenS [(r.1, l.2 + r.2)] = l.2 + r.2 := by show l.2 + r.2 + 0 = _; omega
        omega
    · rw [if_neg c]
      refine ⟨fun x hx => ?_, ?_, ?_, ?_⟩
      · rcases List.mem_append.mp hx with z | z
        · exact ok x z
        · rw [List.mem_singleton.mp z]
          exact ⟨kk, r1⟩
      · refine alt_snoc alt fun y hy => ?_
        rw [List.length_append] at hy
        rw [show t.length + ([l] : List Run).length - 1 = t.length from rfl, List.getElem?_concat_length] at hy
        cases hy
        exact c
      · rw [List.length_append]
        show (t ++ [l]).length + 1 ≤ n + 1
        omega
      · rw [lenS_app, lenS_app]
        have : lenS [r] = r.2 := by show r.2 + 0 = _; omega
        omega
theorem jn_all : ∀ (rs : List Run), (∀ r ∈ rs, KindOk r.1 ∧ 1 ≤ r.2) → JnOk (joinR [] rs) rs.length (lenS rs) := by
  have k : ∀ r : List Run, (∀ x ∈ r.reverse, KindOk x.1 ∧ 1 ≤ x.2) → JnOk (joinR [] r.reverse) r.reverse.length (lenS r.reverse) := fun r => by
    induction r with
    | nil => exact fun _ => ⟨(fun r h => by cases h), (fun i x y h => by simp [joinR] at h), Nat.le_refl _, rfl⟩
    | cons x t ih =>
      intro h
      rw [List.reverse_cons] at h ⊢
      have hx := h x (List.mem_append.mpr (.inr (List.mem_singleton.mpr rfl)))
      rw [joinR_snoc, lenS_app, List.length_append]
      have sx : lenS [x] = x.2 := by show x.2 + 0 = _; omega
      rw [sx]
      exact (ih fun y hy => h y (List.mem_append.mpr (.inl hy))).add hx.1 hx.2
  intro rs
  have h := k rs.reverse
  rw [List.reverse_reverse] at h
  exact h
theorem jn_seq {rs : List Run} (h : ∀ r ∈ rs, KindOk r.1 ∧ 1 ≤ r.2) (l : rs.length ≤ 400) (s : lenS rs ≤ 1000000000000000000000000000000) : SeqOk (joinR [] rs) := by
  have j := jn_all rs h
  have g := (sum_ge j.ok).2
  refine ⟨Nat.le_trans j.len l, fun x hx => ⟨(j.ok x hx).1, (j.ok x hx).2, ?_⟩, j.alt⟩
  have := g x hx
  have := j.sum
  omega
theorem jn_takes {rs : List Run} (h : ∀ r ∈ rs, KindOk r.1 ∧ 1 ≤ r.2) (l : rs.length ≤ 400) (s : lenS rs ≤ 1000000000000000000000000000000) (i : Nat) : SeqOk (joinR [] (rs.take i)) := by
  have e : lenS rs = lenS (rs.take i) + lenS (rs.drop i) := by rw [← lenS_app, List.take_append_drop]
  have d := (sum_ge (rs := rs.drop i) fun r hr => h r (List.mem_of_mem_drop hr)).1
  exact jn_seq (fun r hr => h r (List.mem_of_mem_take hr)) (by rw [List.length_take]; omega) (by omega)
/-! ### texts without great signs -/
def Lo (s : Str) : Prop := ∀ c ∈ TL.tl s, c < 1000
theorem Lo.app {a b : Str} (h1 : Lo a) (h2 : Lo b) : Lo (a ++ b) := fun c hc => by
  rw [TL.tl_append] at hc
  rcases List.mem_append.mp hc with z | z
  · exact h1 c z
  · exact h2 c z
theorem lo_lit {s : Str} (h : (TL.tl s).all (fun c => decide (c < 1000)) = true) : Lo s := fun c hc => of_decide_eq_true (List.all_eq_true.mp h c hc)
theorem lo_nS {n : Int} (h : 0 ≤ n) : Lo (nS n) := fun c hc => by
  have := nS_digits h c hc
  omega
theorem lo_kind {k : Str} (h : KindOk k) : Lo k := fun c hc => by
  have := kind_tl h hc
  omega
theorem lo_join {ws : List Str} (h : ∀ w ∈ ws, Lo w) : Lo (Txt.join " " ws) := fun c hc => by
  rw [TL.join_eq, TL.tl_join, tl_sp] at hc
  have gen : ∀ l : List (List Nat), (∀ w ∈ l, ∀ c ∈ w, c < 1000) → ∀ c ∈ TL.joinL [32] l, c < 1000 := by
    intro l
    induction l with
    | nil => intro _ c hc; cases hc
    | cons x t ih =>
      intro h c hc
      cases t with
      | nil => exact h x (List.mem_cons_self ..) c hc
      | cons y s =>
        have hc : c ∈ x ++ ([32] ++ TL.joinL [32] (y :: s)) := hc
        rcases List.mem_append.mp hc with z | z
        · exact h x (List.mem_cons_self ..) c z
        · rcases List.mem_append.mp z with z | z
          · rw [List.mem_singleton.mp z]
            decide
          · exact ih (fun w hw => h w (List.mem_cons_of_mem _ hw)) c z
  refine gen _ (fun w hw => ?_) c hc
  obtain ⟨s, hs, rfl⟩ := List.mem_map.mp hw
  exact h s hs
theorem lo_rw {r : Run} (h : KindOk r.1) (n : 0 ≤ r.2) : Lo (rwS r) := by
  unfold rwS
  split
  · exact lo_kind h
  · exact ((lo_kind h).app (lo_lit (by decide +kernel))).app (lo_nS n)
theorem lo_st {st : Option Run} (h : ∀ r, st = some r → RwOk r) : Lo (stS st) := by
  cases st with
  | none => exact lo_lit (by decide +kernel)
  | some r =>
    have := h r rfl
    exact lo_rw this.1 (by have := this.2.1; omega)
theorem lo_rg {R : List Rg} (h : ∀ p ∈ R, RgB p) : Lo (rgsS R) := by
  unfold rgsS
  split
  · exact lo_lit (by decide +kernel)
  · refine lo_join fun w hw => ?_
    obtain ⟨p, hp, rfl⟩ := List.mem_map.mp hw
    have g := h p hp
    unfold rgW
    split
    · exact lo_nS g.1
    · exact ((lo_nS g.1).app (lo_lit (by decide +kernel))).app (lo_nS g.2.2.1)
theorem lo_tx {rs : List Run} (h : ∀ r ∈ rs, KindOk r.1 ∧ 1 ≤ r.2) : Lo (txR rs) := by
  unfold txR
  split
  · exact lo_lit (by decide +kernel)
  · refine lo_join fun w hw => ?_
    obtain ⟨r, hr, rfl⟩ := List.mem_map.mp hw
    have := (jn_all rs h).ok r hr
    exact lo_rw this.1 (by omega)
/-! ### the state's number, read from its text -/
/-- the number of ranges grows by one at most -/
theorem of_zero {b : Int} : ∀ {R : List Rg}, Gd R b → ofR R 0 = []
  | [], _ => rfl
  | p :: t, g => by
    have ka := g.1
    have ra : rmR p 0 = 0 := by
      unfold rmR
      rw [if_neg (by omega)]
    show ofP p 0 ++ ofR t (0 - rmR p 0) = []
    unfold ofP
    rw [ra, if_neg (by omega), Int.sub_zero, of_zero g.2.2.2]
    rfl
theorem of_wf_len {b : Int} : ∀ {R : List Rg} {n : Int}, Gd R b → 0 ≤ n → (ofR R n).length + (wfR R n).length ≤ R.length + 1
  | [], _, _, _ => Nat.zero_le _
  | p :: t, n, g, h => by
    obtain ⟨r1, r2, r3, r4⟩ := rm_le g.1 h
    show (ofP p n ++ ofR t (n - rmR p n)).length + (wfP p n ++ wfR t (n - rmR p n)).length ≤ t.length + 1 + 1
    rw [List.length_append, List.length_append]
    have h1 := ofP_len p n
    have h2 := wfP_len p n
    by_cases c : rmR p n < p.2 - p.1 + 1
    · have e := r4 c
      rw [show n - rmR p n = 0 by omega, of_zero g.2.2.2, wf_zero g.2.2.2]
      show (ofP p n).length + 0 + _ ≤ _
      omega
    · have e : wfP p n = [] := if_neg (by omega)
      have ih := of_wf_len (n := n - rmR p n) g.2.2.2 (by omega)
      rw [e]
      show (ofP p n).length + _ + (0 + _) ≤ _
      omega
theorem giv_len {S : Sta} {b : Int} {i c : Int} {k : Str} (g : Gd S.R b) (h : 0 ≤ i) : (givS S i c k).R.length ≤ S.R.length + 1 := by
  show (ofR S.R i ++ wfR (wfR S.R i) c).length ≤ _
  have h1 := of_wf_len g h
  have h2 := wfR_len (wfR S.R i) c
  rw [List.length_append]
  omega
/-! ### all but some objects are kept -/
def Kp (D : List Addr) (H H' : Hp) : Prop := ∀ b o, b ∉ D → H b = some o → H' b = some o
theorem Kp.of {D : List Addr} {H H' : Hp} (s : Same H H') : Kp D H H' := fun b o _ e => s _ _ e
theorem Kp.trans {D : List Addr} {H H1 H2 : Hp} (a : Kp D H H1) (b : Kp D H1 H2) : Kp D H H2 := fun x o n e => b _ _ n (a _ _ n e)
theorem Kp.more {D D' : List Addr} {H H' : Hp} (a : Kp D H H') (s : ∀ x ∈ D, x ∈ D') : Kp D' H H' := fun x o n e => a _ _ (fun z => n (s _ z)) e
theorem Kp.at {D : List Addr} {H H' : Hp} {x : Addr} (a : Kp D H H') (n : x ∉ D) : ∀ o, H x = some o → H' x = some o := fun o e => a _ _ n e
theorem Kp.but {D : List Addr} {H H' : Hp} {x : Addr} (b : But x H H') (m : x ∈ D) : Kp D H H' := fun y o n e => b _ _ (fun z => n (z ▸ m)) e
theorem Kp.fr {D : List Addr} {H H' : Hp} {x y : Addr} (b : Fr x y H H') (m : x ∈ D) (m2 : y ∈ D) : Kp D H H' := fun z o n e => b _ _ (fun q => n (q ▸ m)) (fun q => n (q ▸ m2)) e
def Liv (H : Hp) (L : List Addr) : Prop := ∀ x ∈ L, ∃ o, H x = some o ∧ ∀ xs, o ≠ .tup xs
theorem Liv.not {H : Hp} {L : List Addr} {x : Addr} (l : Liv H L) (e : H x = none) : x ∉ L := fun m => by
  obtain ⟨o, h, _⟩ := l x m
  rw [h] at e
  cases e
theorem Liv.same {H H' : Hp} {L : List Addr} (l : Liv H L) (s : Same H H') : Liv H' L := fun x m => by
  obtain ⟨o, h, n⟩ := l x m
  exact ⟨o, s _ _ h, n⟩
theorem Liv.tk {H H' : Hp} {L D : List Addr} (l : Liv H L) (k : Kp D H H') (s : ∀ x ∈ D, x ∈ L) : Tk H H' := fun b xs e => k _ _ (fun m => by
  obtain ⟨o, h, n⟩ := l b (s _ m)
  rw [e] at h
  cases h
  exact n xs rfl) e
theorem Liv.step {H H' : Hp} {L D : List Addr} (l : Liv H L) (k : Kp D H H') (d : ∀ x ∈ D, ∃ o, H' x = some o ∧ ∀ xs, o ≠ .tup xs) : Liv H' L := fun x m => by
  by_cases c : x ∈ D
  · exact d x c
  · obtain ⟨o, h, n⟩ := l x m
    exact ⟨o, k _ _ c h, n⟩
/-! ### what a station is, by its operations -/
structure Lv (M : Mod) (S : Sta) (os : List Op) : Prop where
  mr : MR M S
  km : KM M
  ok : ∀ o ∈ os, OpK o
  lR : S.R.length ≤ os.length
  lB : S.B.length ≤ 61 * os.length
  c : M.c = lenS (arO os)
  cl : lenS (arO os) ≤ 10000000000000000000000000000 * os.length
  g0 : 0 ≤ M.g
theorem km0 : KM m0 := fun h => absurd rfl h
theorem Lv.nil : Lv m0 ⟨none, [], 0, 0, []⟩ [] := ⟨mr0, km0, (fun o h => by cases h), Nat.le_refl _, Nat.le_refl _, rfl, Int.le_refl _, Int.le_refl _⟩
theorem Lv.arr {M : Mod} {S : Sta} {os : List Op} (h : Lv M S os) (l : os.length ≤ 60) {k : Str} {n : Nat} (kk : KindOk k) (n1 : 1 ≤ n) (n2 : n ≤ 10000000000000000000000000000) : Lv (arrM M k n) (arrS S k n) (os ++ [opR (k, n)]) := by
  obtain ⟨mr, km, ok, lR, lB, c, cl, g0⟩ := h
  have el : (os ++ [opR (k, (n : Int))]).length = os.length + 1 := by rw [List.length_append]; rfl
  have es : lenS (arO (os ++ [opR (k, (n : Int))])) = lenS (arO os) + n := by
    rw [arO_snoc, runO_arr, Option.toList, lenS_app]
    show _ + ((n : Int) + 0) = _
    omega
  refine ⟨(mr.arr k n1).1, km.arr kk n, fun o ho => ?_, ?_, ?_, ?_, ?_, by rw [arr_g]; exact g0⟩
  · rcases List.mem_append.mp ho with z | z
    · exact ok o z
    · rw [List.mem_singleton.mp z]
      exact .inl ⟨k, n, rfl, kk, by show 1 ≤ (n : Int); omega, by show (n : Int) ≤ _; omega⟩
  · rw [el]
    have : (arrS S k n).R.length ≤ S.R.length + 1 := rarR_len ..
    omega
  · rw [el]
    have : (arrS S k n).B.length = S.B.length + (brR S.R S.n (leavR S.st k n)).length := List.length_append ..
    have := brR_len S.R S.n (leavR S.st k n)
    omega
  · rw [es, arr_c, c]
  · rw [es, el]
    omega
theorem Lv.giv {M : Mod} {S : Sta} {os : List Op} (h : Lv M S os) {i n : Nat} (n1 : 1 ≤ n) (l : i + n ≤ M.q.length) : Lv (levM M i n) (givS S i n M.k) (os ++ [(("give_up" : Str), .inl (i : Int), (n : Int))]) := by
  obtain ⟨mr, km, ok, lR, lB, c, cl, g0⟩ := h
  have el : (os ++ [((("give_up" : Str), .inl (i : Int), (n : Int)) : Op)]).length = os.length + 1 := by rw [List.length_append]; rfl
  have es : arO (os ++ [((("give_up" : Str), .inl (i : Int), (n : Int)) : Op)]) = arO os := by
    rw [arO_snoc, runO_giv, Option.toList, List.append_nil]
  refine ⟨(mr.lev n1 l).1, km.lev i n, fun o ho => ?_, ?_, ?_, ?_, ?_, ?_⟩
  · rcases List.mem_append.mp ho with z | z
    · exact ok o z
    · rw [List.mem_singleton.mp z]
      exact .inr ⟨i, n, rfl⟩
  · rw [el]
    have := giv_len (S := S) (i := i) (c := n) (k := M.k) mr.gd (by omega)
    omega
  · rw [el]
    show S.B.length ≤ _
    omega
  · rw [es]
    exact c
  · rw [es, el]
    omega
  · show 0 ≤ M.g + n
    omega
theorem runO_ok {os : List Op} (h : ∀ o ∈ os, OpK o) : ∀ r ∈ arO os, KindOk r.1 ∧ 1 ≤ r.2 := fun r hr => by
  obtain ⟨o, ho, e⟩ := List.mem_filterMap.mp hr
  rcases h o ho with ⟨k, n, rfl, rok⟩ | ⟨j, n, rfl⟩
  · rw [runO_arr] at e
    cases e
    exact ⟨rok.1, rok.2.1⟩
  · cases e
theorem arO_len (os : List Op) : (arO os).length ≤ os.length := List.length_filterMap_le ..
theorem arO_take (os : List Op) (i : Nat) : ∃ j, arO (os.take i) = (arO os).take j := by
  refine ⟨(arO (os.take i)).length, ?_⟩
  have e : arO os = arO (os.take i) ++ arO (os.drop i) := by
    unfold arO
    rw [← List.filterMap_append, List.take_append_drop]
  rw [e, List.take_left' rfl]
section
variable {M : Mod} {S : Sta} {os : List Op}
theorem Lv.n (h : Lv M S os) (l : os.length ≤ 60) : 0 ≤ S.n ∧ S.n ≤ 600000000000000000000000000000 ∧ S.n = lenS (arO os) := by
  have := h.cl
  have := h.c
  have := h.mr.n
  have := (sum_ge (runO_ok h.ok)).1
  refine ⟨by omega, by omega, by omega⟩
theorem Lv.q (h : Lv M S os) : (M.q.length : Int) ≤ S.n ∧ (M.P.length : Int) ≤ S.n := by
  have := h.mr.tot
  have := h.mr.n
  have := h.g0
  exact ⟨by omega, by omega⟩
theorem Lv.seqs (h : Lv M S os) (l : os.length ≤ 60) (i : Nat) : SeqOk (joinR [] (arO (os.take i))) := by
  obtain ⟨j, e⟩ := arO_take os i
  rw [e]
  have := arO_len os
  have := h.n l
  exact jn_takes (runO_ok h.ok) (by omega) (by omega) j
theorem Lv.st (h : Lv M S os) (l : os.length ≤ 60) : ∀ r, S.st = some r → RwOk r := fun r hr => by
  have k := h.mr.kst h.km r hr
  have p := h.mr.posO r hr
  have e := h.mr.st
  have n := h.n l
  have q := h.q
  rw [hr] at e
  split at e
  · cases e
  · have e := Option.some.inj e
    refine ⟨k, p, ?_⟩
    rw [e]
    show (M.q.length : Int) ≤ _
    omega
/-- the answers of a good station -/
theorem Lv.ans (h : Lv M S os) (l : os.length ≤ 60) : Ans S os "state" [] (stS S.st) ∧ Ans S os "waiting" [] (rgsS S.R) ∧ Ans S os "pairs" [] (nS S.m) ∧ Ans S os "arrivals" [] (nS S.n) ∧ Ans S os "sequence" [] (txR (arO os)) ∧ ∀ n : Int, 0 ≤ n → n < S.n → Ans S os "partner" [nS n] (mateS (pgR S.B n)) := by
  have n := h.n l
  have q := h.q
  have m := h.mr.m
  have lR := h.lR
  refine ⟨.state (h.st l), .waiting (h.mr.rgb (by omega)) (by omega), .pairs (by omega) (by omega), .arrivals (by omega) (by omega), .sequence h.ok (h.seqs l) (by omega), fun x x0 x1 => .partner x x0 x1 (by omega) fun j hj => ?_⟩
  have := h.mr.back hj
  exact ⟨this.2.1, by omega⟩
end
end UP

set_option Elab.async false
set_option linter.all false
set_option maxRecDepth 100000
set_option maxHeartbeats 4000000
set_option pp.maxSteps 600
namespace UP
open PySem PySem.Spec PyProof.Rows L2
theorem StnH.liv {C : Addr} {H : Hp} {p ap ar ab : Addr} {S : Sta} {es : List Ent} (z : StnH C H p ap ar ab S es) : (∃ o, H p = some o ∧ ∀ xs, o ≠ .tup xs) ∧ ∃ o, H ap = some o ∧ ∀ xs, o ≠ .tup xs := by
  obtain ⟨⟨_, _, h1, _⟩, _, _, ⟨_, h2, _⟩, _⟩ := z
  exact ⟨⟨_, h1, by intro _ y; cases y⟩, ⟨_, h2, by intro _ y; cases y⟩⟩
theorem Bag.liv {H : Hp} {p cl : Addr} {n : Nat} (z : Bag H p cl n) : ∃ o, H p = some o ∧ ∀ xs, o ≠ .tup xs := by
  obtain ⟨b, h, _⟩ := z
  exact ⟨_, h, by intro _ y; cases y⟩
def S0 : Sta := ⟨none, [], 0, 0, []⟩
/-- a console, the station beside it, another console, and the bag -/
structure Wd (CC C : Addr) (H : Hp) (pb cl q1 p1 a1 p2 a2 q3 p3 a3 r3 b3 : Addr) (n : Nat) (r1 b1 r2 b2 : Addr) (S1 S2 : Sta) (es1 es2 : List Ent) (os1 : List Op) : Prop where
  c : Con CC C H q1 p1 a1 r1 b1 S1 es1 os1
  m : StnH C H p2 a2 r2 b2 S2 es2
  t : Con CC C H q3 p3 a3 r3 b3 S0 [] []
  bg : Bag H pb cl n
  lv : Liv H [pb, p1, a1, p2, a2]
  o1 : ∀ x, Own r1 b1 es1 x → x ∉ [pb, p1, a1, p2, a2]
  o2 : ∀ x, Own r2 b2 es2 x → x ∉ [pb, p1, a1, p2, a2]
  o3 : ∀ x ∈ [q1, q3, p3, a3, r3, b3, cl], x ∉ [pb, p1, a1, p2, a2]
  nb : p1 ≠ pb ∧ a1 ≠ pb ∧ p2 ≠ pb ∧ a2 ≠ pb
  nd : p1 ≠ p2 ∧ p1 ≠ a2 ∧ a1 ≠ p2 ∧ a1 ≠ a2
section
variable {CC C : Addr} {H H' : Hp} {pb cl q1 p1 a1 p2 a2 q3 p3 a3 r3 b3 : Addr} {n m : Nat} {r1 b1 r2 b2 r b : Addr} {S1 S2 S : Sta} {es1 es2 es : List Ent} {os1 os : List Op}
theorem Con.keepO {q p ap ar ab : Addr} (z : Con CC C H q p ap ar ab S es os) (k : Tk H H') (k0 : ∀ o, H q = some o → H' q = some o) (k1 : ∀ o, H p = some o → H' p = some o) (k2 : ∀ o, H ap = some o → H' ap = some o) (ko : ∀ x, Own ar ab es x → ∀ o, H x = some o → H' x = some o) : Con CC C H' q p ap ar ab S es os := by
  obtain ⟨dx, h⟩ := z.ob
  exact ⟨⟨dx, k0 _ h⟩, z.sh.keepO k k1 k2 ko, z.eo, z.ne⟩
theorem Wd.same (w : Wd CC C H pb cl q1 p1 a1 p2 a2 q3 p3 a3 r3 b3 n r1 b1 r2 b2 S1 S2 es1 es2 os1) (s : Same H H') : Wd CC C H' pb cl q1 p1 a1 p2 a2 q3 p3 a3 r3 b3 n r1 b1 r2 b2 S1 S2 es1 es2 os1 :=
  ⟨w.c.same s, w.m.same s, w.t.same s, w.bg.same s, w.lv.same s, w.o1, w.o2, w.o3, w.nb, w.nd⟩
theorem own0 {x : Addr} (h : Own r b [] x) : x = r ∨ x = b := by
  rcases h with e | e | ⟨_, h, _⟩
  · exact .inl e
  · exact .inr e
  · cases h
/-- what is kept while the objects of D' change -/
theorem Wd.tk {D' : List Addr} (w : Wd CC C H pb cl q1 p1 a1 p2 a2 q3 p3 a3 r3 b3 n r1 b1 r2 b2 S1 S2 es1 es2 os1) (k : Kp D' H H') (s : ∀ x ∈ D', x ∈ [pb, p1, a1, p2, a2]) : Tk H H' := w.lv.tk k s
theorem Wd.kt {D' : List Addr} (w : Wd CC C H pb cl q1 p1 a1 p2 a2 q3 p3 a3 r3 b3 n r1 b1 r2 b2 S1 S2 es1 es2 os1) (k : Kp D' H H') (s : ∀ x ∈ D', x ∈ [pb, p1, a1, p2, a2]) : Con CC C H' q3 p3 a3 r3 b3 S0 [] [] := by
  have no : ∀ x ∈ [q1, q3, p3, a3, r3, b3, cl], x ∉ D' := fun x hx h => w.o3 x hx (s x h)
  refine w.t.keepO (w.tk k s) (k.at (no _ (by simp))) (k.at (no _ (by simp))) (k.at (no _ (by simp))) fun x hx => ?_
  rcases own0 hx with e | e
  · rw [e]
    exact k.at (no _ (by simp))
  · rw [e]
    exact k.at (no _ (by simp))
theorem Wd.kc {D' : List Addr} (w : Wd CC C H pb cl q1 p1 a1 p2 a2 q3 p3 a3 r3 b3 n r1 b1 r2 b2 S1 S2 es1 es2 os1) (k : Kp D' H H') (s : ∀ x ∈ D', x ∈ [pb, p1, a1, p2, a2]) (n1 : p1 ∉ D') (n2 : a1 ∉ D') : Con CC C H' q1 p1 a1 r1 b1 S1 es1 os1 :=
  w.c.keepO (w.tk k s) (k.at fun h => w.o3 q1 (by simp) (s _ h)) (k.at n1) (k.at n2) fun x hx => k.at fun h => w.o1 x hx (s x h)
theorem Wd.km {D' : List Addr} (w : Wd CC C H pb cl q1 p1 a1 p2 a2 q3 p3 a3 r3 b3 n r1 b1 r2 b2 S1 S2 es1 es2 os1) (k : Kp D' H H') (s : ∀ x ∈ D', x ∈ [pb, p1, a1, p2, a2]) (n1 : p2 ∉ D') (n2 : a2 ∉ D') : StnH C H' p2 a2 r2 b2 S2 es2 :=
  w.m.keepO (w.tk k s) (k.at n1) (k.at n2) fun x hx => k.at fun h => w.o2 x hx (s x h)
theorem Wd.kb {D' : List Addr} (w : Wd CC C H pb cl q1 p1 a1 p2 a2 q3 p3 a3 r3 b3 n r1 b1 r2 b2 S1 S2 es1 es2 os1) (k : Kp D' H H') (s : ∀ x ∈ D', x ∈ [pb, p1, a1, p2, a2]) (n1 : pb ∉ D') : Bag H' pb cl n :=
  w.bg.keep (k.at n1) (k.at fun h => w.o3 cl (by simp) (s _ h))
theorem Wd.bag (w : Wd CC C H pb cl q1 p1 a1 p2 a2 q3 p3 a3 r3 b3 n r1 b1 r2 b2 S1 S2 es1 es2 os1) (b : But pb H H') (z : Bag H' pb cl m) : Wd CC C H' pb cl q1 p1 a1 p2 a2 q3 p3 a3 r3 b3 m r1 b1 r2 b2 S1 S2 es1 es2 os1 := by
  have k : Kp [pb] H H' := Kp.but b (by simp)
  have s : ∀ x ∈ [pb], x ∈ [pb, p1, a1, p2, a2] := fun x hx => by
    rw [List.mem_singleton.mp hx]
    simp
  have nn : ∀ {x : Addr}, x ≠ pb → x ∉ [pb] := fun h z => h (List.mem_singleton.mp z)
  refine ⟨w.kc k s (nn w.nb.1) (nn w.nb.2.1), w.km k s (nn w.nb.2.2.1) (nn w.nb.2.2.2), w.kt k s, z, w.lv.step k (fun x hx => ?_), w.o1, w.o2, w.o3, w.nb, w.nd⟩
  rw [List.mem_singleton.mp hx]
  exact z.liv
theorem n2a {x a b : Addr} (h1 : x ≠ a) (h2 : x ≠ b) : x ∉ [a, b] := by
  simp only [List.mem_cons, List.not_mem_nil, or_false, not_or]
  exact ⟨h1, h2⟩
/-- the console is used -/
theorem Wd.fst (w : Wd CC C H pb cl q1 p1 a1 p2 a2 q3 p3 a3 r3 b3 n r1 b1 r2 b2 S1 S2 es1 es2 os1) (f : Fr p1 a1 H H') (z : Con CC C H' q1 p1 a1 r b S es os) (own : ∀ x, Own r b es x → Own r1 b1 es1 x ∨ H x = none) : Wd CC C H' pb cl q1 p1 a1 p2 a2 q3 p3 a3 r3 b3 n r b r2 b2 S S2 es es2 os := by
  have k : Kp [p1, a1] H H' := Kp.fr f (by simp) (by simp)
  have s : ∀ x ∈ [p1, a1], x ∈ [pb, p1, a1, p2, a2] := fun x hx => by
    simp only [List.mem_cons, List.not_mem_nil, or_false] at hx ⊢
    rcases hx with e | e <;> simp [e]
  refine ⟨z, w.km k s (n2a w.nd.1.symm w.nd.2.2.1.symm) (n2a w.nd.2.1.symm w.nd.2.2.2.symm), w.kt k s, w.kb k s (n2a w.nb.1.symm w.nb.2.1.symm), w.lv.step k (fun x hx => ?_), fun x hx => ?_, w.o2, w.o3, w.nb, w.nd⟩
  · have l := z.sh.liv
    simp only [List.mem_cons, List.not_mem_nil, or_false] at hx
    rcases hx with e | e
    · rw [e]
      exact l.1
    · rw [e]
      exact l.2
  · rcases own x hx with h | h
    · exact w.o1 x h
    · exact w.lv.not h
/-- the station is used -/
theorem Wd.snd (w : Wd CC C H pb cl q1 p1 a1 p2 a2 q3 p3 a3 r3 b3 n r1 b1 r2 b2 S1 S2 es1 es2 os1) (f : Fr p2 a2 H H') (z : StnH C H' p2 a2 r b S es) (own : ∀ x, Own r b es x → Own r2 b2 es2 x ∨ H x = none) : Wd CC C H' pb cl q1 p1 a1 p2 a2 q3 p3 a3 r3 b3 n r1 b1 r b S1 S es1 es os1 := by
  have k : Kp [p2, a2] H H' := Kp.fr f (by simp) (by simp)
  have s : ∀ x ∈ [p2, a2], x ∈ [pb, p1, a1, p2, a2] := fun x hx => by
    simp only [List.mem_cons, List.not_mem_nil, or_false] at hx ⊢
    rcases hx with e | e <;> simp [e]
  refine ⟨w.kc k s (n2a w.nd.1 w.nd.2.1) (n2a w.nd.2.2.1 w.nd.2.2.2), z, w.kt k s, w.kb k s (n2a w.nb.2.2.1.symm w.nb.2.2.2.symm), w.lv.step k (fun x hx => ?_), w.o1, fun x hx => ?_, w.o3, w.nb, w.nd⟩
  · have l := z.liv
    simp only [List.mem_cons, List.not_mem_nil, or_false] at hx
    rcases hx with e | e
    · rw [e]
      exact l.1
    · rw [e]
      exact l.2
  · rcases own x hx with h | h
    · exact w.o2 x h
    · exact w.lv.not h
end
theorem own_push {r b r' b' : Addr} {es : List Ent} {o : Op} {S : Sta} {H : Hp} (nr : H r' = none) (nb : b' = b ∨ H b' = none) {x : Addr} (h : Own r' b' (es ++ [⟨o, S, r, b⟩]) x) : Own r b es x ∨ H x = none := by
  rcases h with e | e | ⟨y, hy, e⟩
  · rw [e]
    exact .inr nr
  · rw [e]
    rcases nb with z | z
    · rw [z]
      exact .inl (.inr (.inl rfl))
    · exact .inr z
  · rcases List.mem_append.mp hy with z | z
    · exact .inl (.inr (.inr ⟨y, z, e⟩))
    · rw [List.mem_singleton.mp z] at e
      rcases e with e | e
      · exact .inl (.inl e)
      · exact .inl (.inr (.inl e))
/-! ### what a console and a station beside it have in common -/
structure Lk (M : Mod) (S : Sta) (es1 es2 : List Ent) (os : List Op) : Prop where
  lv : Lv M S os
  e2 : es2.map (·.o) = os
  eS : es1.map (·.S) = es2.map (·.S)
  lp : ∀ (i : Nat) (e : Ent), es2[i]? = some e → ∃ M', Lv M' e.S (os.take i)
theorem Lk.nil : Lk m0 S0 [] [] [] := ⟨Lv.nil, rfl, rfl, fun i e h => by simp at h⟩
theorem Lk.push {M M' : Mod} {S S' : Sta} {es1 es2 : List Ent} {os : List Op} {o : Op} {r1 b1 r2 b2 : Addr} (h : Lk M S es1 es2 os) (l : Lv M' S' (os ++ [o])) : Lk M' S' (es1 ++ [⟨o, S, r1, b1⟩]) (es2 ++ [⟨o, S, r2, b2⟩]) (os ++ [o]) := by
  have le : es2.length = os.length := by rw [← h.e2, List.length_map]
  refine ⟨l, by rw [List.map_append, h.e2]; rfl, by rw [List.map_append, List.map_append, h.eS]; rfl, fun i e hi => ?_⟩
  by_cases c : i < es2.length
  · rw [List.getElem?_append_left c] at hi
    rw [List.take_append_of_le_length (by omega)]
    exact h.lp i e hi
  · have hi' := (List.getElem?_eq_some_iff.mp hi).1
    rw [List.length_append] at hi'
    have hi' : i < es2.length + 1 := hi'
    have ei : i = es2.length := by omega
    rw [ei, List.getElem?_concat_length] at hi
    cases hi
    rw [ei, le, List.take_left' rfl]
    exact ⟨M, h.lv⟩
theorem Lk.pop {M : Mod} {S : Sta} {es1 es2 : List Ent} {e1 e2 : Ent} {os : List Op} (h : Lk M S (es1 ++ [e1]) (es2 ++ [e2]) os) : ∃ os' o M', os = os' ++ [o] ∧ e1.S = e2.S ∧ Lk M' e2.S es1 es2 os' := by
  obtain ⟨lv, h2, hS, lp⟩ := h
  rw [List.map_append] at h2
  rw [List.map_append, List.map_append] at hS
  have q := List.append_inj' hS rfl
  have ln : (es2.map (·.o)).length = es2.length := List.length_map ..
  have ll := lp es2.length e2 List.getElem?_concat_length
  rw [← h2, List.take_left' ln] at ll
  obtain ⟨M', ll⟩ := ll
  refine ⟨es2.map (·.o), e2.o, M', h2.symm, ?_, ll, rfl, q.1, fun i e hi => ?_⟩
  · exact (List.cons.inj q.2).1
  · have hi' := (List.getElem?_eq_some_iff.mp hi).1
    have := lp i e (by rw [List.getElem?_append_left hi']; exact hi)
    rw [← h2, List.take_append_of_le_length (by omega)] at this
    exact this
end UP

set_option Elab.async false
set_option linter.all false
set_option maxRecDepth 100000
set_option maxHeartbeats 4000000
set_option pp.maxSteps 600
namespace UP
open PySem PySem.Spec PyProof.Rows L2
/-- what str makes of a number or a text -/
def StrOf (v : V) (z : Str) : Prop := (∃ i : Int, v = .int i ∧ i.natAbs.log2 < 1920 ∧ z = nS i) ∨ v = .str z
theorem call_strSI {X : Cx} : CallR X (.type "str") (fun xs H Q => ∃ v z, xs = [v] ∧ StrOf v z ∧ Q (.str z) H) := by
  intro pins s σ H xs us Q I r h
  obtain ⟨v, z, rfl, h, q⟩ := h
  rcases h with ⟨i, rfl, b, rfl⟩ | rfl
  · exact call_str_int pins s σ H _ us Q I r ⟨i, rfl, b, q⟩
  · exact SkE.call_str_str pins s σ H _ us Q I r ⟨z, rfl, q⟩
def six : List Str := ["a", "b", "c", "zz", "abcdefgh", "undo"]
theorem six_ok : ∀ k ∈ six, KindOk k := by decide +kernel
theorem three_at {a b c r : Int} (r0 : 0 ≤ r) (r1 : r < 3) : ∃ g, atI [V.int a, V.int b, V.int c] r = some (.int g) ∧ (g = a ∨ g = b ∨ g = c) := by
  rcases (show r = 0 ∨ r = 1 ∨ r = 2 by omega) with e | e | e
  · rw [e]
    exact ⟨a, rfl, .inl rfl⟩
  · rw [e]
    exact ⟨b, rfl, .inr (.inl rfl)⟩
  · rw [e]
    exact ⟨c, rfl, .inr (.inr rfl)⟩
theorem two_at7 {a b r : Int} (r0 : 0 ≤ r) (r1 : r < 2) : ∃ g, atI [V.int a, V.int b] r = some (.int g) ∧ (g = a ∨ g = b) := by
  rcases (show r = 0 ∨ r = 1 by omega) with e | e
  · rw [e]
    exact ⟨a, rfl, .inl rfl⟩
  · rw [e]
    exact ⟨b, rfl, .inr rfl⟩
/-- a drawn command -/
inductive Cal (M : Mod) : Str → Op → Prop where
  | arr (k : Str) (n : Nat) : KindOk k → 1 ≤ n → n ≤ 10000000000000000000000000000 → Cal M "arrive" (opR (k, n))
  | giv (i n : Nat) : 1 ≤ n → i + n ≤ M.q.length → Cal M "giveup" (("give_up" : Str), .inl (i : Int), (n : Int))
def CalV (H : Hp) (t : Addr) (w : Str) (o : Op) : Prop := H t = some (.tup [.str w, kV o.2.1, .int o.2.2])
def kwS : Key → Str
  | .inr k => k
  | .inl i => nS i
section
variable {P : Program} {w : World} {K : PySem.W.Frag} {mg : Str → Option Value} {base : Heap} {C CC : Addr}
/-! _law_call: slots 0:bag 1:some 2:large 3:state 4:kinds 5:kind 6:index -/
abbrev s_law_call : Stmt := topS 61
theorem sc_law_call : FnScope ["bag", "some", "large", "state", "kinds", "kind", "index"] ["bag", "some", "large"] (defScope s_law_call) := ⟨rfl, rfl, rfl, by decide +kernel, rfl, by decide +kernel, by decide +kernel⟩
def sp_law_call (C : Addr) : Sp := fun vs H Q _ => ∃ (pb cl p ap ar ab : Addr) (n : Nat) (M : Mod) (S : Sta) (os : List Op) (g : Int), vs = [.ref pb, .ref p, .int g] ∧ Bag H pb cl n ∧ n ≤ 100000000 ∧ Stn C H p ap ar ab S os ∧ Lv M S os ∧ os.length ≤ 60 ∧ 1 ≤ g ∧ g ≤ 10000000000000000000000000000 ∧
  ∀ H' t w o, But pb H H' → Bag H' pb cl (n + 5) → CalV H' t w o → Cal M w o → Q (.ref t) H'
theorem ok_law_call (D : Df K mg "_law_call" s_law_call) (T : Tx mg) (TS : ClsT K mg C) (G_law_draw : Has P w K mg base 2 "_law_draw" ["bag", "bound"] sp_law_draw) (G_Station_current_state : HasM P w K mg base C 1 "current_state" ["self"] (sp_Station_current_state C)) : Has P w K mg base 3 "_law_call" ["bag", "some", "large"] (sp_law_call C) := by
  refine has_of D sc_law_call (fun _ _ _ _ _ _ us hl => match us, hl with | [_, _, _], _ => rfl) (fun vs H Q E h => ?_) (fun f cdv A outer s H vs Q E hr h => ?_)
  · obtain ⟨_, _, _, _, _, _, _, _, _, _, _, rfl, _⟩ := h
    rfl
  · obtain ⟨pb, cl, p, ap, ar, ab, n, M, S, os, g, rfl, z, ln, zs, lv, l60, g1, g2, qq⟩ := h
    refine ⟨_, (pss_cons (ps_set (i := 3) sc_law_call.nd rfl (by first | exact Or.inl rfl | exact Or.inr rfl) (pe_meth0O (pv 1) TS.cl G_Station_current_state (hr.mono (by omega))))
    (pss_cons (ps_set (i := 4) sc_law_call.nd rfl (by first | exact Or.inl rfl | exact Or.inr rfl) (pe_lst (pa_cons pe_str (pa_cons pe_str (pa_cons pe_str (pa_cons pe_str (pa_cons pe_str (pa_cons pe_str pa_nil))))))))
    (C8.pss_cut (ps_if (PW.pt (pw_and (pt_cmpR op_notN (pv 3) pe_non (nomark _)) (pw_and1 (pt_cmpR op_eq (pe_callH G_law_draw (hr.mono (by omega)) (by rfl) (pa_cons (pv 0) (pa_cons pe_int pa_nil))) pe_int (nomark _))))) (pss_cons (ps_set (i := 6) sc_law_call.nd rfl (by first | exact Or.inl rfl | exact Or.inr rfl) (pe_callH G_law_draw (hr.mono (by omega)) (by rfl) (pa_cons (pv 0) (pa_cons (pe_ix ix_tup (pv 3) pe_int (fun _ _ => rfl)) pa_nil))))
    (pss_one (ps_ret (pe_tup (pa_cons pe_str (pa_cons (pv 6) (pa_cons (pe_op op_add pe_int (pe_callH G_law_draw (hr.mono (by omega)) (by rfl) (pa_cons (pv 0) (pa_cons (pe_ix ix_list (pe_lst (pa_cons pe_int (pa_cons (pe_op op_sub (pe_ix ix_tup (pv 3) pe_int (fun _ _ => rfl)) (pv 6)) pa_nil))) (pe_callH G_law_draw (hr.mono (by omega)) (by rfl) (pa_cons (pv 0) (pa_cons pe_int pa_nil))) (fun _ _ => rfl)) pa_nil)))) pa_nil))))))) pss_nil)
    (C8.pss_cut (ps_set (i := 5) sc_law_call.nd rfl (by first | exact Or.inl rfl | exact Or.inr rfl) (pe_ifExp (PW.pt (pw_and (pt_cmpR op_notN (pv 3) pe_non (nomark _)) (pw_and1 (pt_cmpR op_eq (pe_callH G_law_draw (hr.mono (by omega)) (by rfl) (pa_cons (pv 0) (pa_cons pe_int pa_nil))) pe_int (nomark _))))) (pe_ix ix_tup (pv 3) pe_int (fun _ _ => rfl)) (pe_ix ix_list (pv 4) (pe_callH G_law_draw (hr.mono (by omega)) (by rfl) (pa_cons (pv 0) (pa_cons pe_int pa_nil))) (fun _ _ => rfl))))
    (pss_one (ps_ret (pe_tup (pa_cons pe_str (pa_cons (pv 5) (pa_cons (pe_op op_add pe_int (pe_callH G_law_draw (hr.mono (by omega)) (by rfl) (pa_cons (pv 0) (pa_cons (pe_ix ix_list (pe_lst (pa_cons pe_int (pa_cons pe_int (pa_cons (pv 2) pa_nil)))) (pe_callH G_law_draw (hr.mono (by omega)) (by rfl) (pa_cons (pv 0) (pa_cons pe_int pa_nil))) (fun _ _ => rfl)) pa_nil)))) pa_nil)))))))))), ?_⟩
    obtain ⟨dx1, fs1, hp1, lk1⟩ := zs.at nf_current_state
    refine ⟨_, rfl, p, dx1, fs1, rfl, hp1, lk1, p, ap, ar, ab, S, _, rfl, zs, fun v hv => ?_⟩
    refine ⟨(by show 6 ≤ sizeLine; decide), fun kl nk => ?_⟩
    have s1 := same_upd (o := .lst [.str "a", .str "b", .str "c", .str "zz", .str "abcdefgh", .str "undo"]) nk
    have hk1 : (upd H kl (.lst [.str "a", .str "b", .str "c", .str "zz", .str "abcdefgh", .str "undo"])) kl = some (.lst (six.map V.str)) := upd_same
    have z1 := z.same s1
    have hv1 := hv.same s1
    have kp : kl ≠ pb := z.ne nk
    have B1 : But pb H (upd H kl (.lst [.str "a", .str "b", .str "c", .str "zz", .str "abcdefgh", .str "undo"])) := Same.but s1
    generalize upd H kl (.lst [.str "a", .str "b", .str "c", .str "zz", .str "abcdefgh", .str "undo"]) = H1 at *
    have lq := lv.q
    have ln60 := lv.n l60
    have hst := lv.mr.st
    -- the part after a give-up that does not come
    refine ⟨fun σ' H' => σ' = [some (.ref pb), some (.ref p), some (.int g), some v, some (.ref kl), none, none] ∧ But pb H1 H' ∧ Bag H' pb cl (n + 1), ?_, fun σ' H2 hM => ?_⟩
    · by_cases e0 : M.q = []
      · rw [if_pos e0] at hst
        have ev : v = .non := by
          rw [hst] at hv1
          exact hv1
        subst ev
        exact ⟨_, rfl, rfl, _, rfl, iteN rfl ⟨rfl, But.refl, z1.mono (Nat.le_succ _)⟩⟩
      · rw [if_neg e0] at hst
        have hv2 := hv1
        rw [hst] at hv2
        obtain ⟨t, rfl, ht⟩ := hv2
        have ht : H1 t = some (.tup [.str M.k, .int M.q.length]) := ht
        have qp : 0 < M.q.length := List.length_pos_iff.mpr e0
        refine ⟨_, rfl, rfl, _, rfl, iteP rfl ⟨_, rfl, pb, cl, n, 4, rfl, z1, by omega, by decide, by decide, fun H2 r2 b2 z2 r20 r21 => ⟨rfl, _, rfl, ite2 (fun e => ?_) (fun e => ?_)⟩⟩⟩
        · have tb : ∀ {Ha Hb : Hp}, Bag Ha pb cl n → But pb Ha Hb → Tk Ha Hb := fun z b => by
            obtain ⟨_, hb, _⟩ := z
            exact tk_but hb (by intro _ y; cases y) b
          have ht2 := tb z1 b2 _ _ ht
          refine ⟨_, rfl, _, rfl, t, _, 1, _, rfl, rfl, .of ht2, rfl, pb, cl, n + 1, (M.q.length : Int), rfl, z2, by omega, by omega, wideB (by omega) (by omega), fun H3 i b3 z3 i0 i1 => ?_⟩
          obtain ⟨I, rfl⟩ : ∃ I : Nat, i = I := ⟨i.toNat, by omega⟩
          have ht3 := (show Tk H2 H3 from by
            obtain ⟨_, hb, _⟩ := z2
            exact tk_but hb (by intro _ y; cases y) b3) _ _ ht2
          refine ⟨_, rfl, _, rfl, _, rfl, t, _, 1, _, rfl, rfl, .of ht3, rfl, _, rfl, _, _, rfl, rfl, (by show 2 ≤ sizeLine; decide), fun l nl => ?_⟩
          have s4 := same_upd (o := .lst [.int 1, .int ((M.q.length : Int) - I)]) nl
          have hl4 : (upd H3 l (.lst [.int 1, .int ((M.q.length : Int) - I)])) l = some (.lst [.int 1, .int ((M.q.length : Int) - I)]) := upd_same
          have lp := z3.ne nl
          refine ⟨_, rfl, pb, cl, n + 2, 2, rfl, z3.same s4, by omega, by decide, by decide, fun H5 r5 b5 z5 r50 r51 => ?_⟩
          obtain ⟨x, hx, ex⟩ := two_at7 (a := 1) (b := (M.q.length : Int) - I) r50 r51
          have x1 : 1 ≤ x ∧ x ≤ (M.q.length : Int) - I := by omega
          refine ⟨l, _, r5, _, rfl, rfl, .of (b5 _ _ lp hl4), hx, pb, cl, n + 3, x, rfl, z5, by omega, by omega, wideB (by omega) (by omega), fun H6 r6 b6 z6 r60 r61 => ⟨_, _, rfl, rfl, (by show 3 ≤ sizeLine; decide), fun t nt => ?_⟩⟩
          obtain ⟨J, rfl⟩ : ∃ J : Nat, r6 = J := ⟨r6.toNat, by omega⟩
          have s7 := same_upd (o := .tup [.str "giveup", .int (I : Int), .int (1 + (J : Int))]) nt
          refine qq _ t "giveup" (("give_up" : Str), .inl (I : Int), ((1 + J : Nat) : Int)) (B1.trans (b2.trans (b3.trans ((Same.but s4).trans (b5.trans (b6.trans (Same.but s7))))))) ((z6.mono (by omega)).same s7) ?_ (.giv I (1 + J) (by omega) (by omega))
          show _ = some (HO.tup [.str "giveup", .int (I : Int), .int ((1 + J : Nat) : Int)])
          rw [show ((1 + J : Nat) : Int) = 1 + (J : Int) by omega]
          exact upd_same
        · exact ⟨rfl, b2, z2⟩
    · obtain ⟨rfl, b2, z2⟩ := hM
      have hk2 := b2 _ _ kp hk1
      have hv2 := hv1.tk (show Tk H1 H2 from by
        obtain ⟨_, hb, _⟩ := z1
        exact tk_but hb (by intro _ y; cases y) b2)
      have six_at : ∀ {r : Int}, 0 ≤ r → r < 6 → ∃ k, atI (six.map V.str) r = some (.str k) ∧ KindOk k := fun {r} r0 r1 => by
        have l6 : r.toNat < six.length := by
          show r.toNat < 6
          omega
        exact ⟨six[r.toNat], atI_ofB r0 (by rw [List.getElem?_map, List.getElem?_eq_getElem l6]; rfl), six_ok _ (List.getElem_mem l6)⟩
      refine ⟨fun σ' H' => ∃ k, σ' = [some (.ref pb), some (.ref p), some (.int g), some v, some (.ref kl), some (.str k), none] ∧ KindOk k ∧ But pb H2 H' ∧ Bag H' pb cl (n + 3), ?_, fun σ' H3 hM => ?_⟩
      · by_cases e0 : M.q = []
        · rw [if_pos e0] at hst
          have ev : v = .non := by
            rw [hst] at hv2
            exact hv2
          subst ev
          refine ⟨_, rfl, rfl, _, rfl, iteN rfl ⟨_, rfl, _, rfl, pb, cl, n + 1, 6, rfl, z2, by omega, by decide, by decide, fun H3 r3 b3 z3 r30 r31 => ?_⟩⟩
          obtain ⟨k, hk, kk⟩ := six_at r30 r31
          exact ⟨kl, _, r3, _, rfl, rfl, .of (b3 _ _ kp hk2), hk, k, rfl, kk, b3, z3.mono (by omega)⟩
        · rw [if_neg e0] at hst
          rw [hst] at hv2
          obtain ⟨t, rfl, ht⟩ := hv2
          have ht : H2 t = some (.tup [.str M.k, .int M.q.length]) := ht
          refine ⟨_, rfl, rfl, _, rfl, iteP rfl ⟨_, rfl, pb, cl, n + 1, 2, rfl, z2, by omega, by decide, by decide, fun H3 r3 b3 z3 r30 r31 => ⟨rfl, _, rfl, ite2 (fun e => ?_) (fun e => ?_)⟩⟩⟩
          · have ht3 := (show Tk H2 H3 from by
              obtain ⟨_, hb, _⟩ := z2
              exact tk_but hb (by intro _ y; cases y) b3) _ _ ht
            exact ⟨_, rfl, t, _, 0, _, rfl, rfl, .of ht3, rfl, M.k, rfl, lv.km e0, b3, z3.mono (by omega)⟩
          · refine ⟨_, rfl, _, rfl, pb, cl, n + 2, 6, rfl, z3, by omega, by decide, by decide, fun H4 r4 b4 z4 r40 r41 => ?_⟩
            obtain ⟨k, hk, kk⟩ := six_at r40 r41
            exact ⟨kl, _, r4, _, rfl, rfl, .of (b4 _ _ kp (b3 _ _ kp hk2)), hk, k, rfl, kk, b3.trans b4, z4.mono (by omega)⟩
      · obtain ⟨k, rfl, kk, b3, z3⟩ := hM
        refine ⟨_, rfl, _, rfl, _, rfl, (by show 3 ≤ sizeLine; decide), fun l nl => ?_⟩
        have s4 := same_upd (o := .lst [.int 1, .int 5, .int g]) nl
        have hl4 : (upd H3 l (.lst [.int 1, .int 5, .int g])) l = some (.lst [.int 1, .int 5, .int g]) := upd_same
        have lp := z3.ne nl
        refine ⟨_, rfl, pb, cl, n + 3, 3, rfl, z3.same s4, by omega, by decide, by decide, fun H5 r5 b5 z5 r50 r51 => ?_⟩
        obtain ⟨x, hx, ex⟩ := three_at (a := 1) (b := 5) (c := g) r50 r51
        refine ⟨l, _, r5, _, rfl, rfl, .of (b5 _ _ lp hl4), hx, pb, cl, n + 4, x, rfl, z5, by omega, by omega, wideB (by omega) (by omega), fun H6 r6 b6 z6 r60 r61 => ⟨_, _, rfl, rfl, (by show 3 ≤ sizeLine; decide), fun t nt => ?_⟩⟩
        obtain ⟨J, rfl⟩ : ∃ J : Nat, r6 = J := ⟨r6.toNat, by omega⟩
        have s7 := same_upd (o := .tup [.str "arrive", .str k, .int (1 + (J : Int))]) nt
        refine qq _ t "arrive" (opR (k, ((1 + J : Nat) : Int))) (B1.trans (b2.trans (b3.trans ((Same.but s4).trans (b5.trans (b6.trans (Same.but s7))))))) ((z6.mono (by omega)).same s7) ?_ (.arr k (1 + J) kk (by omega) (by omega))
        show _ = some (HO.tup [.str "arrive", .str k, .int ((1 + J : Nat) : Int)])
        rw [show ((1 + J : Nat) : Int) = 1 + (J : Int) by omega]
        exact upd_same
end
end UP

set_option Elab.async false
set_option linter.all false
set_option maxRecDepth 100000
set_option maxHeartbeats 4000000
set_option pp.maxSteps 900
namespace UP
open PySem PySem.Spec PyProof.Rows L2
theorem nS_eq (i : Int) : (toString i : Str) = nS i := rfl
section
variable {P : Program} {w : World} {K : PySem.W.Frag} {mg : Str → Option Value} {base : Heap} {C CC : Addr}
/-! _law_line: slots 0:bag 1:call 2:words -/
abbrev s_law_line : Stmt := topS 62
theorem sc_law_line : FnScope ["bag", "call", "words"] ["bag", "call"] (defScope s_law_line) := ⟨rfl, rfl, rfl, by decide +kernel, rfl, by decide +kernel, by decide +kernel⟩
def sp_law_line : Sp := fun vs H Q _ => ∃ (pb cl t : Addr) (n : Nat) (M : Mod) (w : Str) (o : Op), vs = [.ref pb, .ref t] ∧ Bag H pb cl n ∧ n ≤ 100000000 ∧ CalV H t w o ∧ Cal M w o ∧ M.q.length ≤ 1000000000000000000000000000000 ∧
  ∀ H' args, But pb H H' → Bag H' pb cl (n + 1) → ArgN args (kwS o.2.1) o.2.2 → Q (.str (Txt.join " " (w :: args))) H'
theorem ok_law_line (D : Df K mg "_law_line" s_law_line) (T : Tx mg) (G_law_draw : Has P w K mg base 2 "_law_draw" ["bag", "bound"] sp_law_draw) : Has P w K mg base 3 "_law_line" ["bag", "call"] sp_law_line := by
  refine has_of D sc_law_line (fun _ _ _ _ _ _ us hl => match us, hl with | [_, _], _ => rfl) (fun vs H Q E h => ?_) (fun f cdv A outer s H vs Q E hr h => ?_)
  · obtain ⟨_, _, _, _, _, _, _, rfl, _⟩ := h
    rfl
  · obtain ⟨pb, cl, t, n, M, w, o, rfl, z, ln, ht, hc, lq, qq⟩ := h
    have ht : H t = some (.tup [.str w, kV o.2.1, .int o.2.2]) := ht
    obtain ⟨c1, c2⟩ : 1 ≤ o.2.2 ∧ o.2.2 ≤ 1000000000000000000000000000000 := by
      cases hc with
      | arr k n _ n1 n2 =>
        show 1 ≤ (n : Int) ∧ (n : Int) ≤ _
        omega
      | giv i n n1 l =>
        show 1 ≤ (n : Int) ∧ (n : Int) ≤ _
        omega
    refine ⟨_, (pss_cons (ps_set (i := 2) sc_law_line.nd rfl (by first | exact Or.inl rfl | exact Or.inr rfl) (pe_lst (pa_cons (pe_ix ix_tup (pv 1) pe_int (fun _ _ => rfl)) (pa_cons ((pe_callTy call_strSI (by rfl) T.n_str (by decide +kernel) (pa_cons (pe_ix ix_tup (pv 1) pe_int (fun _ _ => rfl)) pa_nil))) pa_nil))))
    (pss_one (ps_ret (pe_join pe_str (pe_op op_cat (pv 2) (pe_op op_rep (pe_lst (pa_cons (pe_callTy call_str_int (by rfl) T.n_str (by decide +kernel) (pa_cons (pe_ix ix_tup (pv 1) pe_int (fun _ _ => rfl)) pa_nil)) pa_nil)) (pe_callTy call_int1 (by rfl) T.n_int (by decide +kernel) (pa_cons (pe_or (pe_cmpR op_gt (pe_ix ix_tup (pv 1) pe_int (fun _ _ => rfl)) pe_int (nomark _)) (pe_one (pe_cmpR op_eq (pe_callH G_law_draw (hr.mono (by omega)) (by rfl) (pa_cons (pv 0) (pa_cons pe_int pa_nil))) pe_int (nomark _)))) pa_nil)))))))), ?_⟩
    refine ⟨_, rfl, t, _, 0, _, rfl, rfl, .of ht, rfl, _, rfl, t, _, 1, _, rfl, rfl, .of ht, rfl, ?_⟩
    have key : StrOf (kV o.2.1) (kwS o.2.1) := by
      cases hc with
      | arr k n _ n1 n2 => exact .inr rfl
      | giv i n n1 l => exact .inl ⟨i, rfl, log_bd40 (by omega) (by omega), rfl⟩
    refine ⟨_, _, rfl, key, ?_⟩
    refine ⟨(by show 2 ≤ sizeLine; decide), fun L nL => ?_⟩
    have s1 := same_upd (o := .lst [.str w, .str (kwS o.2.1)]) nL
    have hL : (upd H L (.lst [.str w, .str (kwS o.2.1)])) L = some (.lst [.str w, .str (kwS o.2.1)]) := upd_same
    generalize upd H L (.lst [.str w, .str (kwS o.2.1)]) = H1 at *
    have ht1 := s1 _ _ ht
    have lp := z.ne nL
    have z1 := z.same s1
    refine ⟨⟨_, rfl⟩, _, rfl, _, rfl, t, _, 2, _, rfl, rfl, .of ht1, rfl, o.2.2, rfl, log_bd40 (by omega) (by omega), (by show 1 ≤ sizeLine; decide), fun e ne => ?_⟩
    have s2 := same_upd (o := .lst [.str (nS o.2.2)]) ne
    have he : (upd H1 e (.lst [.str (nS o.2.2)])) e = some (.lst [.str (nS o.2.2)]) := upd_same
    have ep := z1.ne ne
    have z2 := z1.same s2
    have hL2 := s2 _ _ hL
    have ht2 := s2 _ _ ht1
    show tCB _ _ _ (upd H1 e (.lst [.str (nS o.2.2)])) _
    generalize upd H1 e (.lst [.str (nS o.2.2)]) = H2 at *
    have B2 : But pb H H2 := Same.but (s1.trans s2)
    have lw : w.length ≤ 10 := by
      cases hc with
      | arr _ _ _ _ _ => decide +kernel
      | giv _ _ _ _ => decide +kernel
    have lk : (kwS o.2.1).length ≤ 50 := by
      cases hc with
      | arr k _ kk _ _ =>
        have := kk.2.1
        show k.length ≤ 50
        omega
      | giv i _ n1 l =>
        have := nS_len (n := (i : Int)) (by omega) (by omega)
        show (nS (i : Int)).length ≤ 50
        omega
    have lnn := nS_len (n := o.2.2) (by omega) (by omega)
    have l1 : (" " : Str).length = 1 := by decide +kernel
    have fin : ∀ (H3 : Hp) (c : Bool), But pb H2 H3 → Bag H3 pb cl (n + 1) → (c = false → o.2.2 = 1) → rRep (V.ref e) (V.int (if c = true then 1 else 0)) H3 (fun y H2 => rCat (V.ref L) y H2 fun y H2 => (fun x xs H_1 Q => ∃ a p ys, x = V.str a ∧ xs = [V.ref p] ∧ (SqL K H_1 p (List.map V.str ys) ∨ SqT K H_1 p (List.map V.str ys)) ∧ (List.map (fun x => x.length) ys).sum + ys.length * a.length ≤ 16777216 ∧ Q (V.str (Txt.join a ys)) H_1) (V.str (Str.ofString " ")) [y] H2 Q) := by
      intro H3 c b3 z3 hc1
      have go : ∀ (p : Addr), H3 p = none → ∀ (p2 : Addr) (ws : List Str), (upd H3 p (.lst (List.replicate (if c = true then (1 : Int) else 0).toNat [V.str (nS o.2.2)]).flatten)) p2 = none → ArgN ws (kwS o.2.1) o.2.2 → Q (.str (Txt.join " " (w :: ws))) (upd (upd H3 p (.lst (List.replicate (if c = true then (1 : Int) else 0).toNat [V.str (nS o.2.2)]).flatten)) p2 (.lst ((w :: ws).map V.str))) := fun p np p2 ws np2 ha => by
        have sA := (same_upd (o := .lst (List.replicate (if c = true then (1 : Int) else 0).toNat [V.str (nS o.2.2)]).flatten) np).trans (same_upd (o := .lst ((w :: ws).map V.str)) np2)
        exact qq _ ws (B2.trans (b3.trans (Same.but sA))) (z3.same sA) ha
      refine ⟨e, _, _, rfl, rfl, b3 _ _ ep he, by cases c <;> decide, by cases c <;> decide, by cases c <;> exact smallE (Nat.le_of_ble_eq_true rfl), fun p np => ⟨L, p, [.str w, .str (kwS o.2.1)], _, rfl, rfl, ?_, upd_same, by cases c <;> exact smallE (Nat.le_of_ble_eq_true rfl), fun p2 np2 => ?_⟩⟩
      · exact same_upd np _ _ (b3 _ _ lp hL2)
      · cases c with
        | true =>
          refine ⟨" ", p2, [w, kwS o.2.1, nS o.2.2], rfl, rfl, .inl (.of upd_same), ?_, go p np p2 [kwS o.2.1, nS o.2.2] np2 (.inl rfl)⟩
          show w.length + ((kwS o.2.1).length + ((nS o.2.2).length + 0)) + 3 * (" " : Str).length ≤ 16777216
          omega
        | false =>
          refine ⟨" ", p2, [w, kwS o.2.1], rfl, rfl, .inl (.of upd_same), ?_, go p np p2 [kwS o.2.1] np2 (.inr ⟨rfl, hc1 rfl⟩)⟩
          show w.length + ((kwS o.2.1).length + 0) + 2 * (" " : Str).length ≤ 16777216
          omega
    refine ⟨_, rfl, t, _, 2, _, rfl, rfl, .of ht2, rfl, _, _, rfl, rfl, _, rfl, ?_⟩
    by_cases c : (1 : Int) < o.2.2
    · rw [if_pos (decide_eq_true c)]
      exact .inr ⟨true, rfl, fin H2 true But.refl (z2.mono (Nat.le_succ _)) (fun e => by cases e)⟩
    · rw [if_neg (by rw [decide_eq_false c]; exact Bool.false_ne_true)]
      refine ⟨_, rfl, pb, cl, n, 2, rfl, z2, by omega, by decide, by decide, fun H3 r3 b3 z3 r30 r31 => ?_⟩
      refine ⟨rfl, .inr ⟨_, rfl, ?_⟩⟩
      exact fin H3 _ b3 z3 (fun _ => by omega)
/-! _law_apply: slots 0:some 1:call -/
abbrev s_law_apply : Stmt := topS 63
theorem sc_law_apply : FnScope ["some", "call"] ["some", "call"] (defScope s_law_apply) := ⟨rfl, rfl, rfl, by decide +kernel, rfl, by decide +kernel, by decide +kernel⟩
def nxS (S : Sta) (k : Str) : Key → Int → Sta
  | .inr k', c => arrS S k' c
  | .inl i, c => givS S i c k
/-- what is told -/
def reS (S : Sta) : Key → Int → Str
  | .inr k, c => nS (leavR S.st k c)
  | .inl i, _ => match (wfR S.R i).head? with
    | some z => nS z.1
    | none => ""
def sp_law_apply (C : Addr) : Sp := fun vs H Q _ => ∃ (p ap ar ab t : Addr) (M : Mod) (S : Sta) (es : List Ent) (os : List Op) (w : Str) (o : Op), vs = [.ref p, .ref t] ∧ StnH C H p ap ar ab S es ∧ Lv M S os ∧ os.length ≤ 60 ∧ es.length = os.length ∧ CalV H t w o ∧ Cal M w o ∧
  ∀ H' ar' ab', Fr p ap H H' → H ar' = none → (ab' = ab ∨ H ab' = none) → StnH C H' p ap ar' ab' (nxS S M.k o.2.1 o.2.2) (es ++ [⟨o, S, ar, ab⟩]) → Q (.str (reS S o.2.1 o.2.2)) H'
theorem ok_law_apply (D : Df K mg "_law_apply" s_law_apply) (T : Tx mg) (TS : ClsT K mg C) (G_Station_arrive : HasMD P w K mg base C 3 "arrive" ["self", "kind", "count"] 2 "count" (.int 1) (sp_Station_arrive C)) (G_Station_give_up : HasMD P w K mg base C 3 "give_up" ["self", "index", "count"] 2 "count" (.int 1) (sp_Station_give_up C)) :
    Has P w K mg base 4 "_law_apply" ["some", "call"] (sp_law_apply C) := by
  refine has_of D sc_law_apply (fun _ _ _ _ _ _ us hl => match us, hl with | [_, _], _ => rfl) (fun vs H Q E h => ?_) (fun f cdv A outer s₀ H vs Q E hr h => ?_)
  · obtain ⟨_, _, _, _, _, _, _, _, _, _, _, rfl, _⟩ := h
    rfl
  · obtain ⟨p, ap, ar, ab, t, M, S, es, os, w, o, rfl, z, lv, l60, le, ht, hc, qq⟩ := h
    have ht : H t = some (.tup [.str w, kV o.2.1, .int o.2.2]) := ht
    have nn := lv.n l60
    have nq := lv.q
    have lR := lv.lR
    have lB := lv.lB
    refine ⟨_, (pss_one (ps_ret (pe_callTy call_str_int (by rfl) T.n_str (by decide +kernel) (pa_cons (pe_ifExp (pt_cmpR op_eq (pe_ix ix_tup (pv 1) pe_int (fun _ _ => rfl)) pe_str (nomark _)) (pe_methFO (pv 0) TS.cl G_Station_arrive (hr.mono (by omega)) (pa_cons (pe_ix ix_tup (pv 1) pe_int (fun _ _ => rfl)) (pa_cons (pe_ix ix_tup (pv 1) pe_int (fun _ _ => rfl)) pa_nil))) (pe_methFO (pv 0) TS.cl G_Station_give_up (hr.mono (by omega)) (pa_cons (pe_ix ix_tup (pv 1) pe_int (fun _ _ => rfl)) (pa_cons (pe_ix ix_tup (pv 1) pe_int (fun _ _ => rfl)) pa_nil)))) pa_nil)))), ?_⟩
    cases hc with
    | arr k n kk n1 n2 =>
      have ht : H t = some (.tup [.str "arrive", .str k, .int n]) := ht
      obtain ⟨dx1, fs1, hp1, lk1⟩ := z.stn.at nf_arrive
      obtain ⟨v0, v1⟩ := leav_le (k := k) (c := n) lv.mr.posO (by omega)
      refine ⟨_, rfl, t, _, 0, _, rfl, rfl, .of ht, rfl, rfl, _, rfl, iteP (decide_eq_true rfl) ?_⟩
      refine ⟨_, rfl, p, dx1, _, rfl, hp1, lk1, _, rfl, t, _, 1, _, rfl, rfl, .of ht, rfl, _, rfl, t, _, 2, _, rfl, rfl, .of ht, rfl, p, ap, ar, ab, S, es, k, n, rfl, z, kk, by omega, by omega, by omega, by omega, by omega, fun H1 ar' ab' f na nb z1 => ?_⟩
      exact ⟨_, rfl, log_bd40 v0 (by omega), qq _ _ _ f na (.inr nb) z1⟩
    | giv i n n1 l =>
      have ht : H t = some (.tup [.str "giveup", .int i, .int n]) := ht
      obtain ⟨dx1, fs1, hp1, lk1⟩ := z.stn.at nf_give_up
      obtain ⟨_, nu, est, x, zr, ex, hz, ez⟩ := lv.mr.lev n1 l
      have bx := lv.mr.ok.qb x (List.mem_of_getElem? ex)
      have hn := lv.mr.n
      have er : reS S (.inl (i : Int)) n = nS zr.1 := by
        show (match (wfR S.R (i : Int)).head? with
          | some z => nS z.1
          | none => "") = nS zr.1
        rw [hz]
      refine ⟨_, rfl, t, _, 0, _, rfl, rfl, .of ht, rfl, rfl, _, rfl, iteN (strN (by decide +kernel)) ?_⟩
      refine ⟨_, rfl, p, dx1, _, rfl, hp1, lk1, _, rfl, t, _, 1, _, rfl, rfl, .of ht, rfl, _, rfl, t, _, 2, _, rfl, rfl, .of ht, rfl, p, ap, ar, ab, S, es, M.k, i, n, zr, rfl, z, est, by omega, by omega, by omega, hz, by omega, by omega, fun H1 ar' f na z1 => ?_⟩
      refine ⟨_, rfl, log_bd40 (by omega) (by omega), ?_⟩
      have q := qq _ _ _ f na (.inl rfl) z1
      rw [show reS S (((("give_up" : Str), (Sum.inl (i : Int) : Key), (n : Int)) : Op)).2.1 (((("give_up" : Str), (Sum.inl (i : Int) : Key), (n : Int)) : Op)).2.2 = nS zr.1 from er] at q
      exact q
end
end UP

set_option Elab.async false
set_option linter.all false
set_option maxRecDepth 100000
set_option maxHeartbeats 4000000
set_option pp.maxSteps 700
namespace UP
open PySem PySem.Spec PyProof.Rows L2
theorem eqv_nilS (ks : List Str) : PyData.eqv (.list (ks.map PyData.str)) (.list []) = ks.isEmpty := by
  rw [PyData.eqv]
  cases ks <;> simp [PyData.eqvAll]
section
variable {P : Program} {w : World} {K : PySem.W.Frag} {mg : Str → Option Value} {base : Heap} {C CC : Addr}
/-! _law_sequence: slots 0:some 1:runs 2:call 3:words 4:kind 5:count -/
abbrev s_law_sequence : Stmt := topS 64
theorem sc_law_sequence : FnScope ["some", "runs", "call", "words", "kind", "count"] ["some"] (defScope s_law_sequence) := ⟨rfl, rfl, rfl, by decide +kernel, rfl, by decide +kernel, by decide +kernel⟩
def sp_law_sequence (C : Addr) : Sp := fun vs H Q _ => ∃ (p ap ar ab : Addr) (S : Sta) (os : List Op), vs = [.ref p] ∧ Stn C H p ap ar ab S os ∧ (∀ o ∈ os, OpK o) ∧ (∀ i, SeqOk (joinR [] (arO (os.take i)))) ∧ os.length ≤ 1000 ∧ ∀ H', Same H H' → Q (.str (txR (arO os))) H'
theorem ok_law_sequence (D : Df K mg "_law_sequence" s_law_sequence) (T : Tx mg) (TS : ClsT K mg C) (G_Station_operations_done : HasM P w K mg base C 1 "operations_done" ["self"] (sp_Station_operations_done C)) : Has P w K mg base 2 "_law_sequence" ["some"] (sp_law_sequence C) := by
  refine has_of D sc_law_sequence (fun _ _ _ _ _ _ us hl => match us, hl with | [_], _ => rfl) (fun vs H Q E h => ?_) (fun f cdv A outer s₀ H vs Q E hr h => ?_)
  · obtain ⟨_, _, _, _, _, _, rfl, _⟩ := h
    rfl
  · obtain ⟨p, ap, ar, ab, S, os, rfl, zs, okr, oks, lo, qq⟩ := h
    refine ⟨_, (pss_cons (ps_set (i := 1) sc_law_sequence.nd rfl (by first | exact Or.inl rfl | exact Or.inr rfl) (pe_lst pa_nil))
    (pss_cons (ps_for PassesOwn.never rfl (pi_list (pe_meth0O (pv 0) TS.cl G_Station_operations_done (hr.mono (by omega)))) (pg_name (i := 2) sc_law_sequence.nd rfl (by first | exact Or.inl rfl | exact Or.inr rfl))
      (pss_one (ps_if (PW.pt (pw_and (pt_cmpR op_eq (pe_ix ix_tup (pv 2) pe_int (fun _ _ => rfl)) pe_str (nomark _)) (pw_and (pt_cmpR (op_neD hr.units) (pv 1) (pe_lst pa_nil) (nomark _)) (pw_and1 (pt_cmpR op_eq (pe_ix ix_tup (pe_ix ix_list (pv 1) (pe_un un_neg pe_int) (fun _ _ => rfl)) pe_int (fun _ _ => rfl)) (pe_ix ix_tup (pv 2) pe_int (fun _ _ => rfl)) (nomark _)))))) (pss_one (ps_asg (pe_tup (pa_cons (pe_ix ix_tup (pv 2) pe_int (fun _ _ => rfl)) (pa_cons (pe_op op_add (pe_ix ix_tup (pe_ix ix_list (pv 1) (pe_un un_neg pe_int) (fun _ _ => rfl)) pe_int (fun _ _ => rfl)) (pe_ix ix_tup (pv 2) pe_int (fun _ _ => rfl))) pa_nil))) (pg_sub (pv 1) (pe_un un_neg pe_int) set_list))) (pss_one (ps_if (pt_cmpR op_eq (pe_ix ix_tup (pv 2) pe_int (fun _ _ => rfl)) pe_str (nomark _)) (pss_one (ps_expr (pe_bm PySem.F.plainAttrs_list PySem.F.slot_list_append PySem.F.type_list_append mt_append (pv 1) (pa_cons (pe_tup (pa_cons (pe_ix ix_tup (pv 2) pe_int (fun _ _ => rfl)) (pa_cons (pe_ix ix_tup (pv 2) pe_int (fun _ _ => rfl)) pa_nil))) pa_nil)))) pss_nil)))))
    (pss_cons (ps_setLc (i := 3) (own := [("kind", 4), ("count", 5)]) rfl sc_law_sequence.nd rfl rfl (sw_true rfl rfl rfl (by decide +kernel)) (pi_list (pv 1)) (blkOk_by (N := ["some", "runs", "call", "words", "kind", "count"]) (sc := defScope s_law_sequence) (by decide +kernel)) (fun _ _ _ _ _ => (pg_tupK (K := K) (n := 2) rfl rfl (pgs_cons (pg_name (i := 4) sc_law_sequence.nd rfl (by first | exact Or.inl rfl | exact Or.inr rfl)) (pgs_cons (pg_name (i := 5) sc_law_sequence.nd rfl (by first | exact Or.inl rfl | exact Or.inr rfl)) pgs_nil)))) (fun _ _ _ _ _ => pts_nil) (fun _ _ _ _ _ => (pe_ifExp (pt_cmpR op_eq (pv 5) pe_int (nomark _)) (pv 4) (pe_op op_add_str (pe_op op_add_str (pv 4) pe_str) (pe_callTy call_str_int (by rfl) T.n_str (by decide +kernel) (pa_cons (pv 5) pa_nil))))))
    (pss_one (ps_ret (pe_ifExp (pt_cmpR (op_neD hr.units) (pv 3) (pe_lst pa_nil) (nomark _)) (pe_join pe_str (pv 3)) pe_str)))))), ?_⟩
    refine ⟨Nat.zero_le _, fun L nL => ?_⟩
    have sL := same_upd (o := .lst []) nL
    have hL0 := upd_same (H := H) (a := L) (o := .lst [])
    generalize upd H L (.lst []) = H0 at *
    have zs0 := zs.same sL
    obtain ⟨dx1, fs1, hp1, lk1⟩ := zs0.at nf_operations_done
    refine ⟨_, rfl, p, dx1, fs1, rfl, hp1, lk1, p, ap, ar, ab, S, os, rfl, zs0, by omega, fun H1 a s1 na ⟨xs, hx, hxp⟩ => ?_⟩
    have lx : xs.length = os.length := Paired.len hxp
    have La : a ≠ L := (ne_of_none hL0 na).symm
    refine ⟨a, rfl, ⟨xs, .of hx⟩, for_list (K := K) (a := a) (xs := xs) (fun i σ H' => ∃ y2 y3 y4 y5, σ = [some (.ref p), some (.ref L), y2, y3, y4, y5] ∧ But L H1 H' ∧ Runs H' L (joinR [] (arO (os.take i))))
      ⟨_, _, _, _, rfl, But.refl, ⟨[], s1 _ _ hL0, .nil⟩⟩ (fun i σ H' _ hP => ?_) (fun i x σ H' ex hP => ?_) (fun σ H' hP => ?_)⟩
    · obtain ⟨_, _, _, _, _, b, _⟩ := hP
      exact .of (b _ _ La hx)
    · obtain ⟨y2, y3, y4, y5, rfl, b2, hR⟩ := hP
      obtain ⟨o, eo, ho⟩ := Paired.at hxp ex
      have et := take_snoc eo
      have okN := oks i
      rcases okr o (List.mem_of_getElem? eo) with ⟨k, n, rfl, rok⟩ | ⟨j, n, rfl⟩
      · obtain ⟨t, rfl, ht⟩ := ho
        have ht : H1 t = some (.tup [.str "arrive", .str k, .int n]) := ht
        have ht := b2 _ _ (ne_of ht (s1 _ _ hL0) (by intro z; cases z)) ht
        have ej : joinR [] (arO (os.take (i + 1))) = addR (joinR [] (arO (os.take i))) (k, n) := by
          rw [et, arO_snoc, runO_arr, Option.toList, joinR_snoc]
        rw [ej]
        clear ej
        generalize joinR [] (arO (os.take i)) = rs at *
        obtain ⟨ys, hy, hyp⟩ := id hR
        have ly : ys.length = rs.length := Paired.len hyp
        have l400 := okN.1
        have okR : ∀ r ∈ rs, KindOk r.1 := fun r hr => (okN.2.1 r hr).1
        have app : ∀ (Hx : Hp) (u : Addr), Same H' Hx → Hx u = none → addR rs (k, n) = rs ++ [(k, n)] → But L H1 (upd (upd Hx u (.tup [.str k, .int n])) L (.lst (ys ++ [.ref u]))) ∧ Runs (upd (upd Hx u (.tup [.str k, .int n])) L (.lst (ys ++ [.ref u]))) L (addR rs (k, n)) := by
          intro Hx u sx nn e
          have hx := sx _ _ hy
          refine ⟨b2.trans ((Same.but (sx.trans (same_upd nn))).trans but_upd), ⟨_, upd_same, ?_⟩⟩
          rw [e]
          exact Paired.app (prs_grow (same_upd nn _ _ hx) (prs_same (same_upd nn) (prs_same sx hyp))) (.cons (RunV.grow (same_upd nn _ _ hx) ⟨u, rfl, upd_same⟩) .nil)
        refine ⟨_, rfl, t, _, 0, _, rfl, rfl, .of ht, rfl, rfl, _, rfl, iteP (decide_eq_true rfl) ?_⟩
        refine ⟨_, rfl, Nat.zero_le _, fun e ne => ?_⟩
        have se := same_upd (o := .lst []) ne
        have he := upd_same (H := H') (a := e) (o := .lst [])
        refine ⟨.list (rs.map dRun), .list [], .lst (.of (se _ _ hy)) (dp_all (prs_same se hyp)), .lst (.of he) .nil, shaped_runs okR, shaped_nil, _, rfl, ?_⟩
        rw [eqv_nil]
        generalize upd H' e (.lst []) = H2 at *
        have ht2 := se _ _ ht
        have hy2 := se _ _ hy
        have hyp2 := prs_same se hyp
        rcases List.eq_nil_or_concat rs with e0 | ⟨R0, l, e0⟩
        · subst e0
          refine iteN rfl ⟨_, rfl, t, _, 0, _, rfl, rfl, .of ht2, rfl, rfl, _, rfl, iteP (decide_eq_true rfl) ?_⟩
          refine ⟨_, rfl, .inl ⟨rfl, _, SqL.of hy2⟩, _, rfl, t, _, 1, _, rfl, rfl, .of ht2, rfl, _, rfl, t, _, 2, _, rfl, rfl, .of ht2, rfl, (by show 2 ≤ sizeLine; decide), fun u nn => ⟨L, _, _, rfl, rfl, same_upd nn _ _ hy2, small (by omega), ?_⟩⟩
          exact ⟨_, _, _, _, rfl, app H2 u se nn rfl⟩
        · rw [List.concat_eq_append] at e0
          subst e0
          obtain ⟨ys0, y, rfl, hy0, ⟨tl, rfl, htl⟩⟩ := paired_snocW R0 l hyp2
          have exl : atI (ys0 ++ [V.ref tl]) (-1) = some (.ref tl) := atI_last _ _
          have nE : ((R0 ++ [l]).isEmpty) = false := by cases R0 <;> rfl
          refine iteP (by rw [nE]; rfl) ⟨_, rfl, 1, rfl, L, _, -1, _, rfl, rfl, .of hy2, exl, tl, _, 0, _, rfl, rfl, .of htl, at0, _, rfl, t, _, 1, _, rfl, rfl, .of ht2, rfl, rfl, _, rfl, ite2 (fun e1 => ?_) (fun e1 => ?_)⟩
          · have e1 : l.1 = k := V.str.inj (of_decide_eq_true e1)
            have er : addR (R0 ++ [l]) (k, n) = R0 ++ [(k, l.2 + n)] := by
              unfold addR
              rw [List.getLast?_concat, List.dropLast_concat]
              exact if_pos e1
            refine ⟨_, rfl, t, _, 1, _, rfl, rfl, .of ht2, rfl, _, rfl, 1, rfl, L, _, -1, _, rfl, rfl, .of hy2, exl, tl, _, 1, _, rfl, rfl, .of htl, at1, _, rfl, t, _, 2, _, rfl, rfl, .of ht2, rfl, _, _, rfl, rfl, (by show 2 ≤ sizeLine; decide), fun u nn => ⟨_, rfl, 1, rfl, L, _, -1, ys0.length, rfl, rfl, same_upd nn _ _ hy2, ?_, ?_⟩⟩
            · rw [List.length_append]
              exact ixN_lastW
            · rw [set_lastW]
              refine ⟨_, _, _, _, rfl, b2.trans ((Same.but (se.trans (same_upd nn))).trans but_upd), ⟨_, upd_same, ?_⟩⟩
              rw [er]
              exact Paired.app (prs_grow (same_upd nn _ _ hy2) (prs_same (same_upd nn) hy0)) (.cons (RunV.grow (same_upd nn _ _ hy2) ⟨u, rfl, upd_same⟩) .nil)
          · have e1 : ¬ l.1 = k := fun z => e1 (decide_eq_true (by rw [z]))
            have er : addR (R0 ++ [l]) (k, n) = (R0 ++ [l]) ++ [(k, n)] := by
              unfold addR
              rw [List.getLast?_concat]
              exact if_neg e1
            refine ⟨_, rfl, t, _, 0, _, rfl, rfl, .of ht2, rfl, rfl, _, rfl, iteP (decide_eq_true rfl) ?_⟩
            refine ⟨_, rfl, .inl ⟨rfl, _, SqL.of hy2⟩, _, rfl, t, _, 1, _, rfl, rfl, .of ht2, rfl, _, rfl, t, _, 2, _, rfl, rfl, .of ht2, rfl, (by show 2 ≤ sizeLine; decide), fun u nn => ⟨L, _, _, rfl, rfl, same_upd nn _ _ hy2, small (by omega), ?_⟩⟩
            exact ⟨_, _, _, _, rfl, app H2 u se nn er⟩
      · obtain ⟨t, rfl, ht⟩ := ho
        have ht : H1 t = some (.tup [.str "give_up", .int j, .int n]) := ht
        have ht := b2 _ _ (ne_of ht (s1 _ _ hL0) (by intro z; cases z)) ht
        have ej : joinR [] (arO (os.take (i + 1))) = joinR [] (arO (os.take i)) := by
          rw [et, arO_snoc, runO_giv, Option.toList, List.append_nil]
        rw [ej]
        refine ⟨_, rfl, t, _, 0, _, rfl, rfl, .of ht, rfl, rfl, _, rfl, iteN (strN (by decide +kernel)) ?_⟩
        exact ⟨_, rfl, t, _, 0, _, rfl, rfl, .of ht, rfl, rfl, _, rfl, iteN (strN (by decide +kernel)) ⟨_, _, _, _, rfl, b2, hR⟩⟩
    · obtain ⟨y2, y3, y4, y5, rfl, b2, hR⟩ := hP
      rw [lx, List.take_length] at hR
      have okE := oks os.length
      rw [List.take_length] at okE
      unfold txR at qq
      generalize joinR [] (arO os) = rs at *
      obtain ⟨ys, hy, hyp⟩ := id hR
      have ly : ys.length = rs.length := Paired.len hyp
      have sA : Same H H' := fun b o e => b2 _ _ (ne_of_none e nL) (s1 _ _ (sL _ _ e))
      refine ⟨_, rfl, L, rfl, ⟨ys, .of hy⟩, fun W nW => lc_list (K := K) (a := L) (xs := ys) (fun i H'' => Same H' H'' ∧ H'' W = some (.lst (((rs.take i).map rwS).map V.str))) ⟨same_upd nW, upd_same⟩ (fun i H'' _ hP => .of (hP.1 _ _ hy)) (fun i x H2 ex hP => ?_) (fun H2 hP => ?_)⟩
      · obtain ⟨sm, hW⟩ := hP
        obtain ⟨r, er, hr⟩ := Paired.at hyp ex
        obtain ⟨t, rfl, ht⟩ := RunV.same sm hr
        have hi : i < ys.length := (List.getElem?_eq_some_iff.mp ex).1
        have okr := okE.2.1 r (List.mem_of_getElem? er)
        have l1 := nS_len (n := r.2) (by have := okr.2.1; omega) (by have := okr.2.2; omega)
        have l2 := okr.1.2.1
        have l3 : ("*" : Str).length = 1 := by decide +kernel
        have fin : ∀ z, z = rwS r → (((rs.take i).map rwS).map V.str).length < sizeLine ∧ Same H' (upd H2 W (.lst (((rs.take i).map rwS).map V.str ++ [.str z]))) ∧ (upd H2 W (.lst (((rs.take i).map rwS).map V.str ++ [.str z]))) W = some (.lst (((rs.take (i + 1)).map rwS).map V.str)) := fun z ez => by
          rw [ez]
          refine ⟨?_, same_grow nW sm, ?_⟩
          · rw [List.length_map, List.length_map, List.length_take]
            have := okE.1
            exact small (by omega)
          · rw [upd_same, take_snoc er, List.map_append, List.map_append]
            rfl
        refine ⟨t, _, rfl, .of ht, rfl, _, _, rfl, _, _, rfl, rfl, rfl, yesT ?_⟩
        by_cases c : r.2 = 1
        · exact ⟨_, rfl, rfl, _, rfl, iteP (decide_eq_true (congrArg V.int c)) ⟨_, rfl, _, hW, fin _ (if_pos c).symm⟩⟩
        · exact ⟨_, rfl, rfl, _, rfl, iteN (nI c) ⟨_, rfl, _, _, rfl, rfl, smallE (by rw [l3]; omega), _, rfl, r.2, rfl, log_bd40 (by have := okr.2.1; omega) (by have := okr.2.2; omega), _, nS r.2, rfl, rfl, smallE (by rw [str_app_len, l3]; omega), _, hW, fin _ (if_neg c).symm⟩⟩
      · obtain ⟨sm, hW⟩ := hP
        rw [ly, List.take_length] at hW
        refine ⟨_, rfl, Nat.zero_le _, fun e ne => ?_⟩
        have se := same_upd (o := .lst []) ne
        have hg : ∀ z ∈ rs.map rwS, StrG z := fun z hz => by
          obtain ⟨r, hr, rfl⟩ := List.mem_map.mp hz
          have := okE.2.1 r hr
          exact strG_of (lo_rw this.1 (by have := this.2.1; omega))
        refine ⟨.list ((rs.map rwS).map PyData.str), .list [], .lst (.of (se _ _ hW)) (dp_strs _), .lst (.of upd_same) .nil, shaped_strs hg, shaped_nil, _, rfl, ?_⟩
        rw [eqv_nilS]
        have sF : Same H (upd H2 e (.lst [])) := sA.trans (sm.trans se)
        by_cases c : rs = []
        · rw [if_pos c] at qq
          subst c
          exact iteN rfl (qq _ sF)
        · rw [if_neg c] at qq
          have nE : ((rs.map rwS).isEmpty) = false := by
            cases rs with
            | nil => exact absurd rfl c
            | cons _ _ => rfl
          refine iteP (by rw [nE]; rfl) ⟨⟨_, rfl⟩, _, rfl, _, W, rs.map rwS, rfl, rfl, .inl (.of (se _ _ hW)), ?_, qq _ sF⟩
          have h2 := sum_le (ws := rs.map rwS) (n := 49) (fun w hw => by
            obtain ⟨r, hr, rfl⟩ := List.mem_map.mp hw
            have := okE.2.1 r hr
            exact rw_len ⟨this.1, this.2.1, by have := this.2.2; omega⟩)
          rw [List.length_map] at h2 ⊢
          have : (" " : Str).length = 1 := by decide +kernel
          rw [this]
          have := okE.1
          omega
end
end UP

set_option Elab.async false
set_option linter.all false
set_option maxRecDepth 100000
set_option maxHeartbeats 4000000
set_option pp.maxSteps 400
namespace UP
open PySem PySem.Spec PyProof.Rows L2
/-- a pair of texts -/
def PrT (H : Hp) (v : V) (p : Str × Str) : Prop := ∃ t, v = .ref t ∧ H t = some (.tup [.str p.1, .str p.2])
theorem PrT.tk {H H' : Hp} {v : V} {p : Str × Str} (k : Tk H H') (h : PrT H v p) : PrT H' v p := by
  obtain ⟨t, rfl, ht⟩ := h
  exact ⟨t, rfl, k _ _ ht⟩
def PrL (H : Hp) (a : Addr) (l : List (Str × Str)) : Prop := ∃ xs, H a = some (.lst xs) ∧ Paired (PrT H) xs l
theorem prt_tk {H H' : Hp} (k : Tk H H') {xs : List V} {l : List (Str × Str)} (h : Paired (PrT H) xs l) : Paired (PrT H') xs l := Paired.imp (fun _ _ y => y.tk k) h
theorem PrL.same {H H' : Hp} {a : Addr} {l : List (Str × Str)} (s : Same H H') (h : PrL H a l) : PrL H' a l := by
  obtain ⟨xs, hx, hp⟩ := h
  exact ⟨xs, s _ _ hx, prt_tk (stk s) hp⟩
theorem PrL.push {H : Hp} {L u : Addr} {xs : List V} {l : List (Str × Str)} (p : Str × Str) (hx : H L = some (.lst xs)) (hp : Paired (PrT H) xs l) (nu : H u = none) : PrL (upd (upd H u (.tup [.str p.1, .str p.2])) L (.lst (xs ++ [.ref u]))) L (l ++ [p]) := by
  have s8 := same_upd (o := .tup [.str p.1, .str p.2]) nu
  have b9 : But L (upd H u (.tup [.str p.1, .str p.2])) (upd (upd H u (.tup [.str p.1, .str p.2])) L (.lst (xs ++ [.ref u]))) := but_upd
  have k9 := tk_but (s8 _ _ hx) (by intro _ z; cases z) b9
  exact ⟨_, upd_same, Paired.app (prt_tk ((stk s8).trans k9) hp) (.cons ⟨u, rfl, k9 _ _ upd_same⟩ .nil)⟩
/-- a question and what is due -/
def Due (S : Sta) (os : List Op) (p : Str × Str) : Prop := ∃ c args, p.1 = Txt.join " " (c :: args) ∧ Ans S os c args p.2
theorem join_two (a b c : Str) (e : a ++ (" " : Str) = c) : Txt.join " " [a, b] = c ++ b := by
  refine TL.ext_tl ?_
  rw [TL.join_eq, TL.tl_join, TL.tl_append, ← e, TL.tl_append]
  show TL.tl a ++ (TL.tl (" " : Str) ++ TL.tl b) = _
  rw [List.append_assoc]
theorem rgW_g {p : Rg} (h : RgB p) : StrG (rgW p) := by
  refine strG_of fun c hc => ?_
  have d1 := nS_digits h.1
  have d2 := nS_digits h.2.2.1
  unfold rgW at hc
  split at hc
  · have := d1 c hc
    omega
  · rw [TL.tl_append, TL.tl_append, show TL.tl ("-" : Str) = [45] by decide +kernel] at hc
    rcases List.mem_append.mp hc with hc | hc
    · rcases List.mem_append.mp hc with hc | hc
      · have := d1 c hc
        omega
      · have := List.mem_singleton.mp hc
        omega
    · have := d2 c hc
      omega
theorem due_one {S : Sta} {os : List Op} {c z : Str} (a : Ans S os c [] z) : Due S os (c, z) := ⟨c, [], (join_one _).symm, a⟩
section
variable {P : Program} {w : World} {K : PySem.W.Frag} {mg : Str → Option Value} {base : Heap} {C CC : Addr}
/-! _law_answers_right: slots 0:bag 1:some 2:mate 3:ranges 4:due 5:step 6:first 7:last 8:at 9:other 10:one -/
abbrev s_law_answers_right : Stmt := topS 65
theorem sc_law_answers_right : FnScope ["bag", "some", "mate", "ranges", "due", "step", "first", "last", "at", "other", "one"] ["bag", "some", "mate"] (defScope s_law_answers_right) := ⟨rfl, rfl, rfl, by decide +kernel, rfl, by decide +kernel, by decide +kernel⟩
def sp_law_answers_right (CC C : Addr) : Sp := fun vs H Q _ => ∃ (pb cl q1 p1 a1 p2 a2 q3 p3 a3 r3 b3 : Addr) (n : Nat) (r1 b1 r2 b2 : Addr) (M : Mod) (S : Sta) (es1 es2 : List Ent) (os : List Op), vs = [.ref pb, .ref q1, .ref p2] ∧ Wd CC C H pb cl q1 p1 a1 p2 a2 q3 p3 a3 r3 b3 n r1 b1 r2 b2 S S es1 es2 os ∧ n ≤ 100000000 ∧ Lk M S es1 es2 os ∧ os.length ≤ 60 ∧
  ∀ H', But pb H H' → Bag H' pb cl (n + 3) → Q (.bl true) H'
theorem ok_law_answers_right (D : Df K mg "_law_answers_right" s_law_answers_right) (T : Tx mg) (TS : ClsT K mg C) (TC : ClsC K mg CC) (G_law_draw : Has P w K mg base 2 "_law_draw" ["bag", "bound"] sp_law_draw) (G_format_state : Has P w K mg base 4 "format_state" ["state"] sp_format_state) (G_law_sequence : Has P w K mg base 2 "_law_sequence" ["some"] (sp_law_sequence C))
    (G_Station_current_state : HasM P w K mg base C 1 "current_state" ["self"] (sp_Station_current_state C)) (G_Station_waiting_positions : HasM P w K mg base C 1 "waiting_positions" ["self"] (sp_Station_waiting_positions C))
    (G_Station_partner_at : HasM P w K mg base C 3 "partner_at" ["self", "position"] (sp_Station_partner_at C)) (G_Station_pair_total : HasM P w K mg base C 1 "pair_total" ["self"] (sp_Station_pair_total C)) (G_Station_arrival_count : HasM P w K mg base C 1 "arrival_count" ["self"] (sp_Station_arrival_count C))
    (G_Console_execute : HasM P w K mg base CC 9 "execute" ["self", "line"] (sp_Console_execute CC C)) : Has P w K mg base 10 "_law_answers_right" ["bag", "some", "mate"] (sp_law_answers_right CC C) := by
  refine has_of D sc_law_answers_right (fun _ _ _ _ _ _ us hl => match us, hl with | [_, _, _], _ => rfl) (fun vs H Q E h => ?_) (fun f cdv A outer s₀ H vs Q E hr h => ?_)
  · obtain ⟨_, _, _, _, _, _, _, _, _, _, _, _, _, _, _, _, _, _, _, _, _, _, rfl, _⟩ := h
    rfl
  · obtain ⟨pb, cl, q1, p1, a1, p2, a2, q3, p3, a3, r3, b3, n, r1, b1, r2, b2, M, S, es1, es2, os, rfl, w0, ln, lk, l60, qq⟩ := h
    have lv := lk.lv
    have nn := lv.n l60
    have nq := lv.q
    have lR := lv.lR
    have rgb := lv.mr.rgb (by omega)
    obtain ⟨d1, d2, d3, d4, d5, d6⟩ := lv.ans l60
    have mS : ∀ {H' : Hp} {n' : Nat}, Wd CC C H' pb cl q1 p1 a1 p2 a2 q3 p3 a3 r3 b3 n' r1 b1 r2 b2 S S es1 es2 os → Stn C H' p2 a2 r2 b2 S os := fun w => lk.e2 ▸ w.m.stn
    refine ⟨_, (pss_cons (ps_set (i := 3) sc_law_answers_right.nd rfl (by first | exact Or.inl rfl | exact Or.inr rfl) (pe_lst pa_nil))
    (pss_cons (ps_for PassesOwn.never rfl (pi_list (pe_meth0O (pv 2) TS.cl G_Station_waiting_positions (hr.mono (by omega)))) (pg_tup rfl (pgs_cons (pg_name (i := 6) sc_law_answers_right.nd rfl (by first | exact Or.inl rfl | exact Or.inr rfl)) (pgs_cons (pg_name (i := 7) sc_law_answers_right.nd rfl (by first | exact Or.inl rfl | exact Or.inr rfl)) pgs_nil)))
      (pss_one (ps_expr (pe_bm PySem.F.plainAttrs_list PySem.F.slot_list_append PySem.F.type_list_append mt_append (pv 3) (pa_cons (pe_ifExp (pt_cmpR op_eq (pv 6) (pv 7) (nomark _)) (pe_callTy call_str_int (by rfl) T.n_str (by decide +kernel) (pa_cons (pv 6) pa_nil)) (pe_op op_add_str (pe_op op_add_str (pe_callTy call_str_int (by rfl) T.n_str (by decide +kernel) (pa_cons (pv 6) pa_nil)) pe_str) (pe_callTy call_str_int (by rfl) T.n_str (by decide +kernel) (pa_cons (pv 7) pa_nil)))) pa_nil)))))
    (pss_cons (ps_set (i := 4) sc_law_answers_right.nd rfl (by first | exact Or.inl rfl | exact Or.inr rfl) (pe_lst (pa_cons (pe_tup (pa_cons pe_str (pa_cons (pe_callH G_format_state (hr.mono (by omega)) (by rfl) (pa_cons (pe_meth0O (pv 2) TS.cl G_Station_current_state (hr.mono (by omega))) pa_nil)) pa_nil))) pa_nil)))
    (C8.pss_cut (ps_expr (pe_bm PySem.F.plainAttrs_list PySem.F.slot_list_append PySem.F.type_list_append mt_append (pv 4) (pa_cons (pe_tup (pa_cons pe_str (pa_cons (pe_ifExp (pt_cmpR (op_neD hr.units) (pv 3) (pe_lst pa_nil) (nomark _)) (pe_join pe_str (pv 3)) pe_str) pa_nil))) pa_nil)))
    (pss_cons (ps_set (i := 4) sc_law_answers_right.nd rfl (by first | exact Or.inl rfl | exact Or.inr rfl) (pe_op op_cat (pv 4) (pe_lst (pa_cons (pe_tup (pa_cons pe_str (pa_cons (pe_callTy call_str_int (by rfl) T.n_str (by decide +kernel) (pa_cons (pe_meth0O (pv 2) TS.cl G_Station_pair_total (hr.mono (by omega))) pa_nil)) pa_nil))) (pa_cons (pe_tup (pa_cons pe_str (pa_cons (pe_callTy call_str_int (by rfl) T.n_str (by decide +kernel) (pa_cons (pe_meth0O (pv 2) TS.cl G_Station_arrival_count (hr.mono (by omega))) pa_nil)) pa_nil))) pa_nil)))))
    (C8.pss_cut (ps_expr (pe_bm PySem.F.plainAttrs_list PySem.F.slot_list_append PySem.F.type_list_append mt_append (pv 4) (pa_cons (pe_tup (pa_cons pe_str (pa_cons (pe_callH G_law_sequence (hr.mono (by omega)) (by rfl) (pa_cons (pv 2) pa_nil)) pa_nil))) pa_nil)))
    (pss_cons (ps_for PassesOwn.never rfl (pi_range1 (by rfl) T.n_range (pa_cons (pe_op op_mulW pe_int (pe_callTy call_int1 (by rfl) T.n_int (by decide +kernel) (pa_cons (pe_cmpR op_gt (pe_meth0O (pv 2) TS.cl G_Station_arrival_count (hr.mono (by omega))) pe_int (nomark _)) pa_nil))) pa_nil)) (pg_name (i := 5) sc_law_answers_right.nd rfl (by first | exact Or.inl rfl | exact Or.inr rfl))
      (pss_cons (ps_set (i := 8) sc_law_answers_right.nd rfl (by first | exact Or.inl rfl | exact Or.inr rfl) (pe_callH G_law_draw (hr.mono (by omega)) (by rfl) (pa_cons (pv 0) (pa_cons (pe_meth0O (pv 2) TS.cl G_Station_arrival_count (hr.mono (by omega))) pa_nil))))
    (pss_cons (ps_set (i := 9) sc_law_answers_right.nd rfl (by first | exact Or.inl rfl | exact Or.inr rfl) (pe_methO (pv 2) TS.cl G_Station_partner_at (hr.mono (by omega)) (pa_cons (pv 8) pa_nil)))
    (pss_one (ps_expr (pe_bm PySem.F.plainAttrs_list PySem.F.slot_list_append PySem.F.type_list_append mt_append (pv 4) (pa_cons (pe_tup (pa_cons (pe_op op_add_str pe_str (pe_callTy call_str_int (by rfl) T.n_str (by decide +kernel) (pa_cons (pv 8) pa_nil))) (pa_cons (pe_ifExp (pt_cmpR op_isN (pv 9) pe_non (nomark _)) pe_str (pe_callTy call_str_int (by rfl) T.n_str (by decide +kernel) (pa_cons (pv 9) pa_nil))) pa_nil))) pa_nil)))))))
    (pss_cons (ps_for PassesOwn.never rfl (pi_range1 (by rfl) T.n_range (pa_cons pe_int pa_nil)) (pg_name (i := 5) sc_law_answers_right.nd rfl (by first | exact Or.inl rfl | exact Or.inr rfl))
      (pss_one (ps_if (pt_cmpR (op_neD hr.units) (pe_lc (own := [("one", 10)]) rfl sc_law_answers_right.nd (pi_list (pv 4)) (blkOk_by (N := ["bag", "some", "mate", "ranges", "due", "step", "first", "last", "at", "other", "one"]) (sc := defScope s_law_answers_right) (by decide +kernel)) (fun _ _ _ _ _ => (pg_name (i := 10) sc_law_answers_right.nd rfl (by first | exact Or.inl rfl | exact Or.inr rfl))) (fun _ _ _ _ _ => pts_one (pt_cmpR op_ne (pe_methO (pv 1) TC.cl G_Console_execute (hr.mono (by omega)) (pa_cons ((pe_ix (ix_tupK (K := K) rfl) (pv 10) pe_int (fun _ _ => rfl))) pa_nil)) ((pe_ix (ix_tupK (K := K) rfl) (pv 10) pe_int (fun _ _ => rfl))) (nomark _))) (fun _ _ _ _ _ => (pv 10))) (pe_lst pa_nil) (nomark _)) (pss_one (ps_ret pe_bl)) pss_nil)))
    (pss_one (ps_ret pe_bl)))))))))), ?_⟩
    refine ⟨Nat.zero_le _, fun A nA => ?_⟩
    have sA := same_upd (o := .lst []) nA
    have hA0 := upd_same (H := H) (a := A) (o := .lst [])
    generalize upd H A (.lst []) = H0 at *
    have w1 := w0.same sA
    obtain ⟨dx1, fs1, hp1, lk1⟩ := (mS w1).at nf_waiting_positions
    refine ⟨_, rfl, p2, dx1, fs1, rfl, hp1, lk1, p2, a2, r2, b2, S, os, rfl, mS w1, fun H1 l1 s1 n1 ⟨xs, hx, hxp⟩ => ?_⟩
    have lx : xs.length = S.R.length := Paired.len hxp
    have Al : l1 ≠ A := (ne_of_none hA0 n1).symm
    have w2 := w1.same s1
    refine ⟨l1, rfl, ⟨xs, .of hx⟩, for_list (K := K) (a := l1) (xs := xs) (fun i σ H' => ∃ y6 y7, σ = [some (.ref pb), some (.ref q1), some (.ref p2), some (.ref A), none, none, y6, y7, none, none, none] ∧ But A H1 H' ∧ H' A = some (.lst (((S.R.take i).map rgW).map V.str)))
      ⟨_, _, rfl, But.refl, s1 _ _ hA0⟩ (fun i σ H' _ hP => ?_) (fun i x σ H' ex hP => ?_) (fun σ H' hP => ?_)⟩
    · obtain ⟨_, _, _, b, _⟩ := hP
      exact .of (b _ _ Al hx)
    · obtain ⟨y6, y7, rfl, bt, hA⟩ := hP
      obtain ⟨p, ep, hp⟩ := Paired.at hxp ex
      have tA : Tk H1 H' := tk_but (s1 _ _ hA0) (by intro _ z; cases z) bt
      obtain ⟨t, rfl, ht⟩ := hp.tk tA
      have hi : i < xs.length := (List.getElem?_eq_some_iff.mp ex).1
      obtain ⟨u1, u2, u3, u4⟩ := rgb p (List.mem_of_getElem? ep)
      have l1 := nS_len u1 u2
      have l2 := nS_len u3 u4
      have fin : ∀ z, z = rgW p → (((S.R.take i).map rgW).map V.str).length < sizeLine ∧ But A H1 (upd H' A (.lst (((S.R.take i).map rgW).map V.str ++ [.str z]))) ∧ (upd H' A (.lst (((S.R.take i).map rgW).map V.str ++ [.str z]))) A = some (.lst (((S.R.take (i + 1)).map rgW).map V.str)) := fun z ez => by
        rw [ez]
        refine ⟨?_, bt.trans but_upd, ?_⟩
        · rw [List.length_map, List.length_map, List.length_take]
          exact small (by omega)
        · rw [upd_same, take_snoc ep, List.map_append, List.map_append]
          rfl
      refine ⟨t, _, rfl, .of ht, rfl, _, _, rfl, _, _, rfl, rfl, ?_⟩
      refine ⟨_, rfl, .inl ⟨rfl, _, SqL.of hA⟩, _, rfl, _, rfl, rfl, _, rfl, ?_⟩
      by_cases c : p.1 = p.2
      · refine iteP (decide_eq_true (congrArg V.int c)) ⟨_, rfl, p.1, rfl, log_bd40 (by omega) (by omega), A, _, _, rfl, rfl, hA, (fin _ (if_pos c).symm).1, _, _, rfl, (fin _ (if_pos c).symm).2⟩
      · refine iteN (nI c) ⟨_, rfl, p.1, rfl, log_bd40 (by omega) (by omega), _, _, rfl, rfl, smallE (by rw [dash_len]; show (nS p.1).length + 1 ≤ _; omega), _, rfl, p.2, rfl, log_bd40 (by omega) (by omega), _, nS p.2, rfl, rfl, smallE (by rw [str_app_len, dash_len]; show (nS p.1).length + 1 + _ ≤ _; omega), A, _, _, rfl, rfl, hA, (fin _ (if_neg c).symm).1, _, _, rfl, (fin _ (if_neg c).symm).2⟩
    · obtain ⟨y6, y7, rfl, bt, hA⟩ := hP
      rw [lx, List.take_length] at hA
      have sH : Same H H' := fun b o e => bt _ _ (ne_of_none e nA) (s1 _ _ (sA _ _ e))
      have w3 := w0.same sH
      obtain ⟨dx1, fs1, hp1, lk1⟩ := (mS w3).at nf_current_state
      refine ⟨_, rfl, p2, dx1, fs1, rfl, hp1, lk1, p2, a2, r2, b2, S, os, rfl, mS w3, fun v hv => ?_⟩
      refine ⟨v, S.st, rfl, hv.dress, lv.st l60, fun H4 s4 => ⟨(by show 2 ≤ sizeLine; decide), fun t1 nt1 => ⟨(by show 1 ≤ sizeLine; decide), fun Dd nD => ?_⟩⟩⟩
      have st1 := same_upd (o := .tup [.str "state", .str (stS S.st)]) nt1
      have sD := same_upd (o := .lst [.ref t1]) nD
      have hD : PrL (upd (upd H4 t1 (.tup [.str "state", .str (stS S.st)])) Dd (.lst [.ref t1])) Dd [("state", stS S.st)] := ⟨_, upd_same, .cons ⟨t1, rfl, sD _ _ upd_same⟩ .nil⟩
      have s5 : Same H' (upd (upd H4 t1 (.tup [.str "state", .str (stS S.st)])) Dd (.lst [.ref t1])) := s4.trans (st1.trans sD)
      have nDH : H Dd = none := (sH.trans (s4.trans st1)).free nD
      refine ⟨fun σ' H' => ∃ y6 y7, σ' = [some (.ref pb), some (.ref q1), some (.ref p2), some (.ref A), some (.ref Dd), none, y6, y7, none, none, none] ∧ Same H H' ∧ PrL H' Dd [("state", stS S.st), ("waiting", rgsS S.R)], ?_, fun σ' H6 hM => ?_⟩
      · have hA5 := s5 _ _ hA
        obtain ⟨ds, hd, hdp⟩ := id hD
        have ld : ds.length = 1 := Paired.len hdp
        have sHD : Same H (upd (upd H4 t1 (.tup [.str "state", .str (stS S.st)])) Dd (.lst [.ref t1])) := sH.trans s5
        generalize upd (upd H4 t1 (.tup [.str "state", .str (stS S.st)])) Dd (.lst [.ref t1]) = H5 at *
        refine ⟨_, rfl, .inl ⟨rfl, _, SqL.of hd⟩, _, rfl, Nat.zero_le _, fun e ne => ?_⟩
        have se := same_upd (o := .lst []) ne
        have hg : ∀ z ∈ S.R.map rgW, StrG z := fun z hz => by
          obtain ⟨r, hr, rfl⟩ := List.mem_map.mp hz
          exact rgW_g (rgb r hr)
        refine ⟨.list ((S.R.map rgW).map PyData.str), .list [], .lst (.of (se _ _ hA5)) (dp_strs _), .lst (.of upd_same) .nil, shaped_strs hg, shaped_nil, _, rfl, ?_⟩
        rw [eqv_nilS]
        have fin : ∀ u, (upd H5 e (.lst [])) u = none → ∃ y6' y7', [some (V.ref pb), some (V.ref q1), some (V.ref p2), some (V.ref A), some (V.ref Dd), none, y6, y7, none, none, none] = [some (V.ref pb), some (V.ref q1), some (V.ref p2), some (V.ref A), some (V.ref Dd), none, y6', y7', none, none, none] ∧ Same H (upd (upd (upd H5 e (.lst [])) u (.tup [.str "waiting", .str (rgsS S.R)])) Dd (.lst (ds ++ [.ref u]))) ∧ PrL (upd (upd (upd H5 e (.lst [])) u (.tup [.str "waiting", .str (rgsS S.R)])) Dd (.lst (ds ++ [.ref u]))) Dd [("state", stS S.st), ("waiting", rgsS S.R)] := fun u nu => by
          have su := same_upd (o := .tup [.str "waiting", .str (rgsS S.R)]) nu
          exact ⟨_, _, rfl, same_grow nDH (sHD.trans (se.trans su)), PrL.push ("waiting", rgsS S.R) (se _ _ hd) (prt_tk (stk se) hdp) nu⟩
        by_cases c : S.R = []
        · have er : rgsS S.R = "none" := if_pos c
          rw [er] at fin
          refine iteN (by rw [c]; rfl) ⟨(by show 2 ≤ sizeLine; decide), fun u nu => ⟨Dd, _, _, rfl, rfl, same_upd nu _ _ (se _ _ hd), small (by omega), ?_⟩⟩
          rw [er]
          exact fin u nu
        · have er : rgsS S.R = Txt.join " " (S.R.map rgW) := if_neg c
          rw [er] at fin
          have nE : ((S.R.map rgW).isEmpty) = false := by
            cases h : S.R with
            | nil => exact absurd h c
            | cons _ _ => rfl
          refine iteP (by rw [nE]; rfl) ⟨⟨_, rfl⟩, _, rfl, _, A, S.R.map rgW, rfl, rfl, .inl (.of (se _ _ hA5)), rgs_sum rgb (by omega), (by show 2 ≤ sizeLine; decide), fun u nu => ⟨Dd, _, _, rfl, rfl, same_upd nu _ _ (se _ _ hd), small (by omega), ?_⟩⟩
          rw [er]
          exact fin u nu
      · obtain ⟨y6, y7, rfl, s6, hD6⟩ := hM
        have w6 := w0.same s6
        obtain ⟨dx1, fs1, hp1, lk1⟩ := (mS w6).at nf_pair_total
        obtain ⟨ds, hd, hdp⟩ := id hD6
        have ld : ds.length = 2 := Paired.len hdp
        have hm := lv.mr.m
        refine ⟨_, rfl, _, rfl, p2, dx1, fs1, rfl, hp1, lk1, p2, a2, r2, b2, S, os, rfl, mS w6, S.m, rfl, log_bd40 (by omega) (by omega), (by show 2 ≤ sizeLine; decide), fun u1 nu1 => ?_⟩
        have su1 := same_upd (o := .tup [.str "pairs", .str (toString S.m)]) nu1
        have hu1 : (upd H6 u1 (.tup [.str "pairs", .str (toString S.m)])) u1 = some (.tup [.str "pairs", .str (toString S.m)]) := upd_same
        have w7 := w6.same su1
        obtain ⟨dx1, fs1, hp1, lk1⟩ := (mS w7).at nf_arrival_count
        refine ⟨_, rfl, p2, dx1, fs1, rfl, hp1, lk1, p2, a2, r2, b2, S, os, rfl, mS w7, S.n, rfl, log_bd40 (by omega) (by omega), (by show 2 ≤ sizeLine; decide), fun u2 nu2 => ⟨(by show 2 ≤ sizeLine; decide), fun Lb nLb => ?_⟩⟩
        have su2 := same_upd (o := .tup [.str "arrivals", .str (toString S.n)]) nu2
        have hu2 := upd_same (H := upd H6 u1 (.tup [.str "pairs", .str (toString S.m)])) (a := u2) (o := .tup [.str "arrivals", .str (toString S.n)])
        have sLb := same_upd (o := .lst [.ref u1, .ref u2]) nLb
        have hLb := upd_same (H := upd (upd H6 u1 (.tup [.str "pairs", .str (toString S.m)])) u2 (.tup [.str "arrivals", .str (toString S.n)])) (a := Lb) (o := .lst [.ref u1, .ref u2])
        refine ⟨Dd, Lb, ds, _, rfl, rfl, sLb _ _ (su2 _ _ (su1 _ _ hd)), hLb, smallE (by show ds.length + 2 ≤ 1000000; omega), fun D2 nD2 => ?_⟩
        have s7 := su1.trans (su2.trans sLb)
        have sD2 := same_upd (o := .lst (ds ++ [.ref u1, .ref u2])) nD2
        have h7 : PrL (upd (upd (upd (upd H6 u1 (.tup [.str "pairs", .str (toString S.m)])) u2 (.tup [.str "arrivals", .str (toString S.n)])) Lb (.lst [.ref u1, .ref u2])) D2 (.lst (ds ++ [.ref u1, .ref u2]))) D2 [("state", stS S.st), ("waiting", rgsS S.R), ("pairs", nS S.m), ("arrivals", nS S.n)] :=
          ⟨_, upd_same, by
            have h := Paired.app (prt_tk (stk (s7.trans sD2)) hdp) (Paired.cons (F := PrT (upd (upd (upd (upd H6 u1 (.tup [.str "pairs", .str (toString S.m)])) u2 (.tup [.str "arrivals", .str (toString S.n)])) Lb (.lst [.ref u1, .ref u2])) D2 (.lst (ds ++ [.ref u1, .ref u2])))) (a := V.ref u1) (b := ("pairs", nS S.m)) ⟨u1, rfl, sD2 _ _ (sLb _ _ (su2 _ _ hu1))⟩ (Paired.cons (F := PrT (upd (upd (upd (upd H6 u1 (.tup [.str "pairs", .str (toString S.m)])) u2 (.tup [.str "arrivals", .str (toString S.n)])) Lb (.lst [.ref u1, .ref u2])) D2 (.lst (ds ++ [.ref u1, .ref u2])))) (a := V.ref u2) (b := ("arrivals", nS S.n)) ⟨u2, rfl, sD2 _ _ (sLb _ _ hu2)⟩ .nil))
            exact h⟩
        have nD2H : H D2 = none := (s6.trans s7).free nD2
        have s8 := s6.trans (s7.trans sD2)
        refine ⟨fun σ' H' => ∃ y6 y7, σ' = [some (.ref pb), some (.ref q1), some (.ref p2), some (.ref A), some (.ref D2), none, y6, y7, none, none, none] ∧ Same H H' ∧ PrL H' D2 [("state", stS S.st), ("waiting", rgsS S.R), ("pairs", nS S.m), ("arrivals", nS S.n), ("sequence", txR (arO os))], ?_, fun σ' H9 hM => ?_⟩
        · generalize upd (upd (upd (upd H6 u1 (.tup [.str "pairs", .str (toString S.m)])) u2 (.tup [.str "arrivals", .str (toString S.n)])) Lb (.lst [.ref u1, .ref u2])) D2 (.lst (ds ++ [.ref u1, .ref u2])) = H8 at *
          obtain ⟨es, he, hep⟩ := id h7
          have le : es.length = 4 := Paired.len hep
          refine ⟨_, rfl, .inl ⟨rfl, _, SqL.of he⟩, _, rfl, p2, a2, r2, b2, S, os, rfl, mS (w0.same s8), lv.ok, lv.seqs l60, by omega, fun H9 s9 => ⟨(by show 2 ≤ sizeLine; decide), fun u nu => ⟨D2, es, _, rfl, rfl, same_upd nu _ _ (s9 _ _ he), small (by omega), _, _, rfl, same_grow nD2H (s8.trans (s9.trans (same_upd nu))), PrL.push ("sequence", txR (arO os)) (s9 _ _ he) (prt_tk (stk s9) hep) nu⟩⟩⟩
        · clear h7 sD2 s7 hLb sLb hu2 su2 hu1 su1 hdp hd s8 nLb
          obtain ⟨y6, y7, rfl, s9, h9⟩ := hM
          have w9 := w0.same s9
          obtain ⟨dx1, fs1, hp1, lk1⟩ := (mS w9).at nf_arrival_count
          have cm : CMulW 3 (if decide (0 < S.n) = true then 1 else 0) := by
            split
            · exact wide_mul (a := 3) (b := 1) (by decide) (by decide) (by decide) (by decide) (by decide)
            · exact wide_mul (a := 3) (b := 1) (by decide) (by decide) (by decide) (by decide) (by decide)
          obtain ⟨tn, et, tb⟩ : ∃ tn : Nat, (3 : Int) * (if decide (0 < S.n) = true then 1 else 0) = tn ∧ (0 < tn → 0 < S.n) ∧ tn ≤ 3 := by
            by_cases c : 0 < S.n
            · exact ⟨3, by rw [if_pos (decide_eq_true c)]; rfl, fun _ => c, Nat.le_refl _⟩
            · exact ⟨0, by rw [if_neg (by rw [decide_eq_false c]; decide)]; rfl, fun z => absurd z (by decide), by decide⟩
          refine ⟨_, rfl, p2, dx1, fs1, rfl, hp1, lk1, p2, a2, r2, b2, S, os, rfl, mS w9, _, _, rfl, rfl, ?_⟩
          refine .inr ⟨_, rfl, _, _, rfl, rfl, cm, ?_⟩
          refine ⟨_, rfl, ?_⟩
          rw [et]
          have npb : D2 ≠ pb := w0.bg.ne nD2H
          have ncl : D2 ≠ cl := by
            obtain ⟨_, _, h2, _⟩ := w0.bg
            exact (ne_of_none h2 nD2H).symm
          refine ⟨by omega, by omega, for_range (lo := 0) (n := ((tn : Nat) : Int).toNat) (fun i σ H' => ∃ y5 y6 y7 y8 y9 l, σ = [some (.ref pb), some (.ref q1), some (.ref p2), some (.ref A), some (.ref D2), y5, y6, y7, y8, y9, none] ∧ But pb H H' ∧ Bag H' pb cl (n + i) ∧ PrL H' D2 l ∧ (∀ p ∈ l, Due S os p) ∧ l.length ≤ 5 + i)
            ⟨_, _, _, _, _, _, rfl, Same.but s9, w9.bg, h9, ?_, Nat.le_refl _⟩ (fun i σ H15 hi hP => ?_) (fun σ H15 hP => ?_)⟩
          · intro p hp
            simp only [List.mem_cons, List.not_mem_nil, or_false] at hp
            rcases hp with e | e | e | e | e <;> rw [e]
            · exact due_one d1
            · exact due_one d2
            · exact due_one d3
            · exact due_one d4
            · exact due_one d5
          · obtain ⟨y5, y6, y7, y8, y9, l, rfl, b15, z15, h15, dl, ll⟩ := hP
            have hi : i < ((tn : Nat) : Int).toNat := hi
            have nP : 0 < S.n := tb.1 (by omega)
            have w15 := w0.bag b15 z15
            obtain ⟨dx1, fs1, hp1, lk1⟩ := (mS w15).at nf_arrival_count
            refine ⟨_, rfl, _, rfl, p2, dx1, fs1, rfl, hp1, lk1, p2, a2, r2, b2, S, os, rfl, mS w15, pb, cl, n + i, S.n, rfl, z15, by omega, by omega, wideB (by omega) (by omega), fun H16 at0 b16 z16 a0 a1 => ?_⟩
            have B16 := b15.trans b16
            have w16 := w0.bag B16 z16
            obtain ⟨dx1, fs1, hp1, lk1⟩ := (mS w16).at nf_partner_at
            refine ⟨_, rfl, p2, dx1, fs1, rfl, hp1, lk1, _, rfl, p2, a2, r2, b2, S, os, at0, rfl, mS w16, a0, a1, ?_⟩
            obtain ⟨es, he, hep⟩ := h15
            have tk16 : Tk H15 H16 := by
              obtain ⟨_, hb, _⟩ := z15
              exact tk_but hb (by intro _ y; cases y) b16
            have he := b16 _ _ npb he
            have hep := prt_tk tk16 hep
            have le : es.length = l.length := Paired.len hep
            have pl : ("partner " : Str).length = 8 := by decide +kernel
            have al := nS_len a0 (by omega)
            have aPar := d6 at0 a0 a1
            have fin : ∀ (u : Addr) (z : Str), H16 u = none → z = mateS (pgR S.B at0) → ∃ y5 y6' y7' y8 y9 l', [some (V.ref pb), some (V.ref q1), some (V.ref p2), some (V.ref A), some (V.ref D2), some (.int (0 + (i : Int))), y6, y7, some (.int at0), some (oI (pgR S.B at0)), none] = [some (V.ref pb), some (V.ref q1), some (V.ref p2), some (V.ref A), some (V.ref D2), y5, y6', y7', y8, y9, none] ∧
                But pb H (upd (upd H16 u (.tup [.str (("partner " : Str) ++ nS at0), .str z])) D2 (.lst (es ++ [.ref u]))) ∧ Bag (upd (upd H16 u (.tup [.str (("partner " : Str) ++ nS at0), .str z])) D2 (.lst (es ++ [.ref u]))) pb cl (n + (i + 1)) ∧ PrL (upd (upd H16 u (.tup [.str (("partner " : Str) ++ nS at0), .str z])) D2 (.lst (es ++ [.ref u]))) D2 l' ∧ (∀ p ∈ l', Due S os p) ∧ l'.length ≤ 5 + (i + 1) := fun u z nu ez => by
              have su := same_upd (o := .tup [.str (("partner " : Str) ++ nS at0), .str z]) nu
              have h17 := PrL.push (("partner " : Str) ++ nS at0, z) he hep nu
              have bD : But D2 H16 (upd (upd H16 u (.tup [.str (("partner " : Str) ++ nS at0), .str z])) D2 (.lst (es ++ [.ref u]))) := (Same.but su).trans but_upd
              refine ⟨_, _, _, _, _, _, rfl, fun b o nb e => ?_, z16.keep (bD.at npb.symm) (bD.at ncl.symm), h17, fun p hp => ?_, ?_⟩
              · exact bD _ _ (ne_of_none e nD2H) (B16 _ _ nb e)
              · rcases List.mem_append.mp hp with h | h
                · exact dl p h
                · rw [List.mem_singleton.mp h, ez]
                  exact ⟨"partner", [nS at0], (join_two ("partner" : Str) (nS at0) ("partner " : Str) (by decide +kernel)).symm, aPar⟩
              · rw [List.length_append]
                show l.length + 1 ≤ _
                omega
            refine ⟨_, rfl, .inl ⟨rfl, _, SqL.of he⟩, _, rfl, at0, rfl, log_bd40 (by omega) (by omega), "partner ", nS at0, rfl, rfl, smallE (by rw [pl]; omega), ?_⟩
            cases ep : pgR S.B at0 with
            | none =>
              rw [ep] at fin
              exact ⟨_, rfl, rfl, _, rfl, iteP rfl ⟨(by show 2 ≤ sizeLine; decide), fun u nu => ⟨D2, es, _, rfl, rfl, same_upd nu _ _ he, small (by omega), fin u _ nu rfl⟩⟩⟩
            | some j =>
              obtain ⟨_, j0, j1⟩ := lv.mr.back ep
              rw [ep] at fin
              exact ⟨_, rfl, rfl, _, rfl, iteN rfl ⟨_, rfl, j, rfl, log_bd40 (by omega) (by omega), (by show 2 ≤ sizeLine; decide), fun u nu => ⟨D2, es, _, rfl, rfl, same_upd nu _ _ he, small (by omega), fin u _ nu rfl⟩⟩⟩
          · obtain ⟨y5, y6, y7, y8, y9, l, rfl, b15, z15, h15, dl, ll⟩ := hP
            clear h9 cm et
            have w15 := w0.bag b15 (z15.mono (m := n + 3) (by omega))
            obtain ⟨es, he, hep⟩ := h15
            have le : es.length = l.length := Paired.len hep
            refine ⟨_, rfl, by decide, by decide, for_range (lo := 0) (n := 2) (fun i σ H' => ∃ y5, σ = [some (.ref pb), some (.ref q1), some (.ref p2), some (.ref A), some (.ref D2), y5, y6, y7, y8, y9, none] ∧ Same H15 H')
              ⟨_, rfl, Same.refl _⟩ (fun i σ H16 hi hP => ?_) (fun σ H16 hP => ?_)⟩
            · obtain ⟨y5, rfl, s16⟩ := hP
              have w16 := w15.same s16
              have he16 := s16 _ _ he
              have hep16 := prt_tk (stk s16) hep
              refine ⟨_, rfl, D2, rfl, ⟨es, .of he16⟩, fun L nL => lc_list (K := K) (a := D2) (xs := es) (fun i H' => Same H16 H' ∧ H' L = some (.lst [])) ⟨same_upd nL, upd_same⟩ (fun i H' _ hP => .of (hP.1 _ _ he16)) (fun i x H17 ex hP => ?_) (fun H17 hP => ?_)⟩
              · obtain ⟨s17, hL⟩ := hP
                obtain ⟨⟨c0, z0⟩, ep, t, rfl, ht⟩ := Paired.at hep16 ex
                obtain ⟨c, args, e0, an⟩ := dl _ (List.mem_of_getElem? ep)
                have e0 : c0 = Txt.join " " (c :: args) := e0
                subst e0
                have ht17 := s17 _ _ ht
                have w17 := w16.same s17
                obtain ⟨dxc, hq⟩ := id w17.c.ob
                refine ⟨rfl, _, rfl, q1, dxc, _, rfl, hq, fl1_no p1 (by decide +kernel), _, rfl, t, _, 0, _, rfl, rfl, .of ht17, rfl, q1, p1, a1, r1, b1, S, es1, os, c, args, rfl, w17.c, .inl ⟨_, an, fun H18 s18 => ?_⟩⟩
                refine ⟨_, rfl, t, _, 1, _, rfl, rfl, .of (s18 _ _ ht17), rfl, ?_⟩
                exact ⟨rfl, _, rfl, iteN (by rw [decide_eq_true rfl]; rfl) ⟨s17.trans s18, s18 _ _ hL⟩⟩
              · obtain ⟨s17, hL⟩ := hP
                refine ⟨Nat.zero_le _, fun e ne => ?_⟩
                have se := same_upd (o := .lst []) ne
                exact ⟨.list [], .list [], .lst (.of (se _ _ hL)) .nil, .lst (.of upd_same) .nil, shaped_nil, shaped_nil, _, rfl, iteN rfl ⟨_, rfl, s16.trans (s17.trans se)⟩⟩
            · obtain ⟨y5, rfl, s16⟩ := hP
              exact qq _ (b15.trans (Same.but s16)) ((z15.mono (by omega)).same s16)
end
end UP

set_option Elab.async false
set_option linter.all false
set_option maxRecDepth 100000
set_option maxHeartbeats 4000000
set_option pp.maxSteps 600
namespace UP
open PySem PySem.Spec PyProof.Rows L2
theorem tell7 {CC C : Addr} {H : Hp} {q p ap ar ab : Addr} {M : Mod} {S : Sta} {es : List Ent} {os : List Op} {w : Str} {o : Op} {args : List Str} {Q : VK} {E : XK} (zc : Con CC C H q p ap ar ab S es os) (lv : Lv M S os) (l60 : os.length ≤ 60) (hc : Cal M w o) (ha : ArgN args (kwS o.2.1) o.2.2)
    (h : ∀ H' ar' ab', Fr p ap H H' → H ar' = none → (ab' = ab ∨ H ab' = none) → Con CC C H' q p ap ar' ab' (nxS S M.k o.2.1 o.2.2) (es ++ [⟨o, S, ar, ab⟩]) (os ++ [o]) → Q (.str (reS S o.2.1 o.2.2)) H') : sp_Console_execute CC C [.ref q, .str (Txt.join " " (w :: args))] H Q E := by
  have nn := lv.n l60
  have nq := lv.q
  have lR := lv.lR
  have lB := lv.lB
  refine ⟨q, p, ap, ar, ab, S, es, os, w, args, rfl, zc, ?_⟩
  cases hc with
  | arr k n kk n1 n2 =>
    obtain ⟨v0, v1⟩ := leav_le (k := k) (c := n) lv.mr.posO (by omega)
    exact .inr (.inl ⟨k, n, rfl, ha, kk, by omega, by omega, by omega, by omega, by omega, v0, by omega, fun H' ar' ab' f na nb z => h H' ar' ab' f na (.inr nb) z⟩)
  | giv i n n1 l =>
    obtain ⟨_, nu, est, x, zr, ex, hz, ez⟩ := lv.mr.lev n1 l
    have bx := lv.mr.ok.qb x (List.mem_of_getElem? ex)
    have hn := lv.mr.n
    have er : reS S (.inl (i : Int)) n = nS zr.1 := by
      show (match (wfR S.R (i : Int)).head? with
        | some z => nS z.1
        | none => "") = nS zr.1
      rw [hz]
    refine .inr (.inr (.inl ⟨i, n, M.k, zr, rfl, ha, est, by omega, by omega, by omega, by omega, hz, by omega, by omega, by omega, by omega, fun H' ar' f na z => ?_⟩))
    have q := h H' ar' ab f na (.inl rfl) z
    rw [show reS S (((("give_up" : Str), (Sum.inl (i : Int) : Key), (n : Int)) : Op)).2.1 (((("give_up" : Str), (Sum.inl (i : Int) : Key), (n : Int)) : Op)).2.2 = nS zr.1 from er] at q
    exact q
theorem Lk.next {M : Mod} {S : Sta} {es1 es2 : List Ent} {os : List Op} {w : Str} {o : Op} {r1 b1 r2 b2 : Addr} (h : Lk M S es1 es2 os) (l60 : os.length ≤ 60) (hc : Cal M w o) : ∃ M', Lk M' (nxS S M.k o.2.1 o.2.2) (es1 ++ [⟨o, S, r1, b1⟩]) (es2 ++ [⟨o, S, r2, b2⟩]) (os ++ [o]) := by
  cases hc with
  | arr k n kk n1 n2 => exact ⟨_, h.push (h.lv.arr l60 kk n1 n2)⟩
  | giv i n n1 l => exact ⟨_, h.push (h.lv.giv n1 l)⟩
theorem Wd.make {CC C : Addr} {H3 H4 H5 H6 : Hp} {pb cl q1 p1 a1 r1 b1 p2 a2 r2 b2 q3 p3 a3 r3 b3 : Addr} {n : Nat} (zb : Bag H3 pb cl n) (z1 : Con CC C H4 q1 p1 a1 r1 b1 S0 [] []) (s34 : Same H3 H4) (n1 : H3 q1 = none ∧ H3 p1 = none ∧ H3 a1 = none ∧ H3 r1 = none ∧ H3 b1 = none)
    (z2 : StnH C H5 p2 a2 r2 b2 S0 []) (s45 : Same H4 H5) (n2 : H4 p2 = none ∧ H4 a2 = none ∧ H4 r2 = none ∧ H4 b2 = none) (z3 : Con CC C H6 q3 p3 a3 r3 b3 S0 [] []) (s56 : Same H5 H6) (n3 : H5 q3 = none ∧ H5 p3 = none ∧ H5 a3 = none ∧ H5 r3 = none ∧ H5 b3 = none) :
    Wd CC C H6 pb cl q1 p1 a1 p2 a2 q3 p3 a3 r3 b3 n r1 b1 r2 b2 S0 S0 [] [] [] := by
  obtain ⟨bb, hb, hcl, _⟩ := id zb
  obtain ⟨⟨_, _, hp1, _⟩, ⟨_, hr1, _⟩, ⟨_, hb1, _⟩, ⟨_, ha1, _⟩, e1, e2, _⟩ := id z1.sh
  obtain ⟨⟨_, _, hp2, _⟩, ⟨_, hr2, _⟩, ⟨_, hb2, _⟩, ⟨_, ha2, _⟩, f1, f2, _⟩ := id z2
  obtain ⟨_, hq1⟩ := id z1.ob
  have li : ∀ {x y : Addr} {H : Hp} {l : List V} {d : Addr} {fs : List (Str × V)}, H x = some (.lst l) → H y = some (.ins C d fs) → x ≠ y := fun a b => ne_of a b (by intro z; cases z)
  have alive5 : ∀ x ∈ [pb, p1, a1, p2, a2], ∃ o, H5 x = some o := fun x hx => by
    simp only [List.mem_cons, List.not_mem_nil, or_false] at hx
    rcases hx with e | e | e | e | e <;> rw [e]
    · exact ⟨_, s45 _ _ (s34 _ _ hb)⟩
    · exact ⟨_, s45 _ _ hp1⟩
    · exact ⟨_, s45 _ _ ha1⟩
    · exact ⟨_, hp2⟩
    · exact ⟨_, ha2⟩
  have new3 : ∀ {x : Addr}, H5 x = none → x ∉ [pb, p1, a1, p2, a2] := fun {x} e hx => by
    obtain ⟨o, h⟩ := alive5 x hx
    rw [h] at e
    cases e
  have five : ∀ {x : Addr}, x ≠ pb → x ≠ p1 → x ≠ a1 → x ≠ p2 → x ≠ a2 → x ∉ [pb, p1, a1, p2, a2] := fun {x} h1 h2 h3 h4 h5 => by
    simp only [List.mem_cons, List.not_mem_nil, or_false, not_or]
    exact ⟨h1, h2, h3, h4, h5⟩
  have v4 : ∀ {x y : Addr} {o : HO}, H4 x = some o → H4 y = none → x ≠ y := fun a b => ne_of_none a b
  have v3 : ∀ {x y : Addr} {o : HO}, H3 x = some o → H3 y = none → x ≠ y := fun a b => ne_of_none a b
  refine ⟨z1.same (s45.trans s56), z2.same s56, z3, zb.same (s34.trans (s45.trans s56)), fun x hx => ?_, fun x hx => ?_, fun x hx => ?_, fun x hx => ?_, ?_, ?_⟩
  · simp only [List.mem_cons, List.not_mem_nil, or_false] at hx
    rcases hx with e | e | e | e | e <;> rw [e]
    · exact ⟨_, s56 _ _ (s45 _ _ (s34 _ _ hb)), by intro _ y; cases y⟩
    · exact ⟨_, s56 _ _ (s45 _ _ hp1), by intro _ y; cases y⟩
    · exact ⟨_, s56 _ _ (s45 _ _ ha1), by intro _ y; cases y⟩
    · exact ⟨_, s56 _ _ hp2, by intro _ y; cases y⟩
    · exact ⟨_, s56 _ _ ha2, by intro _ y; cases y⟩
  · rcases own0 hx with e | e <;> rw [e]
    · exact five (v3 hb n1.2.2.2.1).symm (li hr1 hp1) e1.symm (v4 hr1 n2.1) (v4 hr1 n2.2.1)
    · exact five (v3 hb n1.2.2.2.2).symm (li hb1 hp1) e2.symm (v4 hb1 n2.1) (v4 hb1 n2.2.1)
  · rcases own0 hx with e | e <;> rw [e]
    · exact five (v4 (s34 _ _ hb) n2.2.2.1).symm (v4 hp1 n2.2.2.1).symm (v4 ha1 n2.2.2.1).symm (li hr2 hp2) f1.symm
    · exact five (v4 (s34 _ _ hb) n2.2.2.2).symm (v4 hp1 n2.2.2.2).symm (v4 ha1 n2.2.2.2).symm (li hb2 hp2) f2.symm
  · simp only [List.mem_cons, List.not_mem_nil, or_false] at hx
    rcases hx with e | e | e | e | e | e | e <;> rw [e]
    · exact five (v3 hb n1.1).symm z1.ne.1 z1.ne.2 (v4 hq1 n2.1) (v4 hq1 n2.2.1)
    · exact new3 n3.1
    · exact new3 n3.2.1
    · exact new3 n3.2.2.1
    · exact new3 n3.2.2.2.1
    · exact new3 n3.2.2.2.2
    · exact five zb.cl_ne (v3 hcl n1.2.1) (v3 hcl n1.2.2.1) (v4 (s34 _ _ hcl) n2.1) (v4 (s34 _ _ hcl) n2.2.1)
  · exact ⟨(v3 hb n1.2.1).symm, (v3 hb n1.2.2.1).symm, (v4 (s34 _ _ hb) n2.1).symm, (v4 (s34 _ _ hb) n2.2.1).symm⟩
  · exact ⟨v4 hp1 n2.1, v4 hp1 n2.2.1, v4 ha1 n2.1, v4 ha1 n2.2.1⟩
theorem new_okC {C : Addr} {H H6 : Hp} {qa dx p ap ar ab : Addr} (np : H qa = none) (nd : H dx = none) (b : But qa (upd (upd H dx (.own qa)) qa (.ins C dx [])) H6) (nq : (upd (upd H dx (.own qa)) qa (.ins C dx [])) p = none) (na : (upd (upd H dx (.own qa)) qa (.ins C dx [])) ap = none) (nr : (upd (upd H dx (.own qa)) qa (.ins C dx [])) ar = none) (nb : (upd (upd H dx (.own qa)) qa (.ins C dx [])) ab = none) :
    Same H H6 ∧ H p = none ∧ H ap = none ∧ H ar = none ∧ H ab = none := by
  have s5 : Same H (upd (upd H dx (.own qa)) qa (.ins C dx [])) := fun b o e => by
    rw [upd_ne (ne_of_none e np), upd_ne (ne_of_none e nd)]
    exact e
  have f : ∀ {x : Addr}, (upd (upd H dx (.own qa)) qa (.ins C dx [])) x = none → H x = none := fun {x} e => by
    cases y : H x with
    | none => rfl
    | some o =>
      rw [s5 _ _ y] at e
      cases e
  exact ⟨fun c o e => b _ _ (ne_of_none e np) (s5 _ _ e), f nq, f na, f nr, f nb⟩
/-- a new station -/
theorem new_ok {C : Addr} {H H6 : Hp} {qa dx ap ar ab : Addr} (np : H qa = none) (nd : H dx = none) (b : But qa (upd (upd H dx (.own qa)) qa (.ins C dx [])) H6) (na : (upd (upd H dx (.own qa)) qa (.ins C dx [])) ap = none) (nr : (upd (upd H dx (.own qa)) qa (.ins C dx [])) ar = none) (nb : (upd (upd H dx (.own qa)) qa (.ins C dx [])) ab = none) :
    Same H H6 ∧ H ap = none ∧ H ar = none ∧ H ab = none ∧ qa ≠ ap ∧ qa ≠ ar ∧ qa ≠ ab := by
  have s5 : Same H (upd (upd H dx (.own qa)) qa (.ins C dx [])) := fun b o e => by
    rw [upd_ne (ne_of_none e np), upd_ne (ne_of_none e nd)]
    exact e
  have f : ∀ {x : Addr}, (upd (upd H dx (.own qa)) qa (.ins C dx [])) x = none → H x = none := fun {x} e => by
    cases y : H x with
    | none => rfl
    | some o =>
      rw [s5 _ _ y] at e
      cases e
  have g : ∀ {x : Addr}, (upd (upd H dx (.own qa)) qa (.ins C dx [])) x = none → qa ≠ x := fun {x} e z => by
    rw [← z, upd_same] at e
    cases e
  exact ⟨fun c o e => b _ _ (ne_of_none e np) (s5 _ _ e), f na, f nr, f nb, g na, g nr, g nb⟩
end UP

set_option Elab.async false
set_option linter.all false
set_option maxRecDepth 100000
set_option maxHeartbeats 4000000
set_option pp.maxSteps 600
namespace UP
open PySem PySem.Spec PyProof.Rows L2
theorem nf_len : NotF "__len__" := ⟨by decide +kernel, by decide +kernel, by decide +kernel, by decide +kernel, by decide +kernel, by decide +kernel⟩
theorem p9 : (10 : Int) ^ ((9 : Int).toNat) = 1000000000 := by decide +kernel
theorem p28 : (10 : Int) ^ ((28 : Int).toNat) = 10000000000000000000000000000 := by decide +kernel
def fourQ : List Str := ["state", "waiting", "arrivals", "sequence"]
def fourZ : List Str := ["-", "none", "0", "empty"]
theorem four_ans (i : Nat) (c : Str) (h : fourQ[i]? = some c) : ∃ z, fourZ[i]? = some z ∧ Ans S0 [] c [] z := by
  obtain ⟨d1, d2, d3, d4, d5, _⟩ := Lv.nil.ans (by decide)
  have hi := (List.getElem?_eq_some_iff.mp h).1
  have hi : i < 4 := hi
  rcases (show i = 0 ∨ i = 1 ∨ i = 2 ∨ i = 3 by omega) with e | e | e | e <;> subst e <;> cases h
  · exact ⟨_, rfl, d1⟩
  · exact ⟨_, rfl, d2⟩
  · exact ⟨_, rfl, (show nS 0 = ("0" : Str) by decide +kernel) ▸ d4⟩
  · exact ⟨_, rfl, d5⟩
theorem callT {CC C : Addr} {H : Hp} {pb cl q1 p1 a1 p2 a2 q3 p3 a3 r3 t3 r1 t1 r2 t2 : Addr} {n : Nat} {M : Mod} {S : Sta} {es1 es2 : List Ent} {os : List Op} {g : Int} {v0 v2 v4 v5 v8 v9 v10 : Option V} {k : Ends} (wd : Wd CC C H pb cl q1 p1 a1 p2 a2 q3 p3 a3 r3 t3 n r1 t1 r2 t2 S S es1 es2 os) (lk : Lk M S es1 es2 os) (l60 : os.length ≤ 59) (ln : n ≤ 10000000) (g1 : 1 ≤ g ∧ g ≤ 10000000000000000000000000000)
    (h : ∀ H' y9 n' r1 t1 r2 t2 M S es1 es2 os', Wd CC C H' pb cl q1 p1 a1 p2 a2 q3 p3 a3 r3 t3 n' r1 t1 r2 t2 S S es1 es2 os' → Lk M S es1 es2 os' → os'.length = os.length + 1 → n' = n + 6 → k.nx [v0, some (.ref pb), v2, some (.int g), v4, v5, some (.ref q1), some (.ref p2), v8, y9, v10] H') :
    tSeq (tAsg (tCall (sp_law_call C) [] E0 (tCons (tVar 1) (tCons (tVar 7) (tCons (tVar 3) tNil)))) (gName 9)) (tIfS (tTest (tOp rNe (tMeth CC "execute" (sp_Console_execute CC C) [] E0 (tVar 6) (tCons (tCall sp_law_line [] E0 (tCons (tVar 1) (tCons (tVar 9) tNil))) tNil)) (tCall (sp_law_apply C) [] E0 (tCons (tVar 7) (tCons (tVar 9) tNil))))) (tRet (tC (V.bl false))) tNext) k
      [v0, some (.ref pb), v2, some (.int g), v4, v5, some (.ref q1), some (.ref p2), v8, v9, v10] H := by
  have lv := lk.lv
  have nn := lv.n (by omega)
  have nq := lv.q
  have mS : ∀ {H' : Hp} {n' : Nat}, Wd CC C H' pb cl q1 p1 a1 p2 a2 q3 p3 a3 r3 t3 n' r1 t1 r2 t2 S S es1 es2 os → Stn C H' p2 a2 r2 t2 S os := fun w => lk.e2 ▸ w.m.stn
  refine ⟨_, rfl, _, rfl, _, rfl, pb, cl, p2, a2, r2, t2, n, M, S, os, g, rfl, wd.bg, by omega, mS wd, lv, by omega, g1.1, g1.2, fun H1 t w o b1 z1 ht hc => ?_⟩
  have w1 := wd.bag b1 z1
  obtain ⟨dxc, hq⟩ := id w1.c.ob
  refine ⟨_, rfl, q1, dxc, _, rfl, hq, fl1_no p1 (by decide +kernel), _, rfl, _, rfl, pb, cl, t, n + 5, M, w, o, rfl, z1, by omega, ht, hc, by omega, fun H2 args b2 z2 ha => ?_⟩
  have w2 := w1.bag b2 z2
  have ht2 : CalV H2 t w o := (show Tk H1 H2 from by
    obtain ⟨_, hb, _⟩ := z1
    exact tk_but hb (by intro _ y; cases y) b2) _ _ ht
  dsimp only [tNil, List.append_nil, List.cons_append, List.nil_append]
  refine tell7 w2.c lv (by omega) hc ha fun H3 ar' ab' f3 na nb zc3 => ?_
  have w3 := w2.fst f3 zc3 (fun x hx => own_push na nb hx)
  have ht3 : CalV H3 t w o := w2.tk (D' := [p1, a1]) (Kp.fr f3 (by simp) (by simp)) (fun x hx => by
    simp only [List.mem_cons, List.not_mem_nil, or_false] at hx ⊢
    rcases hx with e | e <;> simp [e]) _ _ ht2
  refine ⟨_, rfl, _, rfl, p2, a2, r2, t2, t, M, S, es2, os, w, o, rfl, w3.m, lv, by omega, by rw [← lk.e2, List.length_map], ht3, hc, fun H4 ar2 ab2 f4 na2 nb2 zm4 => ?_⟩
  have w4 := w3.snd f4 zm4 (fun x hx => own_push na2 nb2 hx)
  obtain ⟨M', lk'⟩ := lk.next (r1 := r1) (b1 := t1) (r2 := r2) (b2 := t2) (by omega) hc
  refine ⟨rfl, _, rfl, iteN (by rw [decide_eq_true rfl]; rfl) ?_⟩
  exact h _ _ _ _ _ _ _ _ _ _ _ _ w4 lk' (by rw [List.length_append]; rfl) rfl
section
variable {P : Program} {w : World} {K : PySem.W.Frag} {mg : Str → Option Value} {base : Heap}
/-! law: slots 0:script 1:bag 2:turn 3:large 4:step 5:found 6:some 7:mate 8:other 9:call 10:line -/
abbrev s_law : Stmt := topS 66
theorem sc_law : FnScope ["script", "bag", "turn", "large", "step", "found", "some", "mate", "other", "call", "line"] ["script"] (defScope s_law) := ⟨rfl, rfl, rfl, by decide +kernel, rfl, by decide +kernel, by decide +kernel⟩
def sp_law (K : PySem.W.Frag) : Sp := fun vs H Q _ => ∃ (a : Addr) (ns : List Int), vs = [.ref a] ∧ SqL K H a (ns.map V.int) ∧ ns.length ≤ 63 ∧ ∀ H', Q (.bl true) H'
theorem fn_law {f : Addr} {fd : FuncData} {C CC : Addr} (F : Fun K "law" "law" s_law f fd) (T : Tx mg) (TS : ClsT K mg C) (TC : ClsC K mg CC) (G_law_bag : Has P w K mg base 1 "_law_bag" ["script"] (sp_law_bag K)) (G_law_draw : Has P w K mg base 2 "_law_draw" ["bag", "bound"] sp_law_draw)
    (G_Console___init__ : HasI P w K mg base CC 3 (sp_Console_init CC C)) (G_Station___init__ : HasI P w K mg base C 1 (sp_Station_init C)) (G_Station___len__ : HasM P w K mg base C 1 "__len__" ["self"] (sp_Station_len C)) (G_Station_undo : HasM P w K mg base C 1 "undo" ["self"] (sp_Station_undo C))
    (G_Console_execute : HasM P w K mg base CC 9 "execute" ["self", "line"] (sp_Console_execute CC C)) (G_law_call : Has P w K mg base 3 "_law_call" ["bag", "some", "large"] (sp_law_call C)) (G_law_line : Has P w K mg base 3 "_law_line" ["bag", "call"] sp_law_line) (G_law_apply : Has P w K mg base 4 "_law_apply" ["some", "call"] (sp_law_apply C))
    (G_law_answers_right : Has P w K mg base 10 "_law_answers_right" ["bag", "some", "mate"] (sp_law_answers_right CC C)) :
    FnC P w K mg base f fd ["script"] (sp_law K) := by
  refine fnC_of F sc_law (fun vs H Q E h => ?_) (fun cdv outer s H vs Q E hr h => ?_)
  · obtain ⟨_, _, rfl, _⟩ := h
    rfl
  · obtain ⟨a, ns, rfl, hS, l63, q⟩ := h
    have hr := Room.deeper (show Room (10 + 1) callerA from ⟨rfl, by decide, by decide⟩) (envOfC "law" (defScope s_law) s.heap.objs.size f cdv)
    refine ⟨_, (pss_cons (ps_set (i := 1) sc_law.nd rfl (by first | exact Or.inl rfl | exact Or.inr rfl) (pe_callH G_law_bag (hr.mono (by omega)) (by rfl) (pa_cons (pv 0) pa_nil)))
    (pss_cons (ps_for PassesOwn.never rfl (pi_range1 (by rfl) T.n_range (pa_cons (pe_op op_add pe_int (pe_callB (call_min2 rfl) (by rfl) T.n_min (by decide +kernel) (pa_cons pe_int (pa_cons (pe_callB call_len_seq (by rfl) T.n_len (by decide +kernel) (pa_cons (pv 0) pa_nil)) pa_nil)))) pa_nil)) (pg_name (i := 2) sc_law.nd rfl (by first | exact Or.inl rfl | exact Or.inr rfl))
      (pss_cons (ps_asg (pe_tup (pa_cons (pe_makeO TC.mkS G_Console___init__ (hr.mono (by omega)) (by rfl)) (pa_cons (pe_makeO TS.mkS G_Station___init__ (hr.mono (by omega)) (by rfl)) (pa_cons (pe_makeO TC.mkS G_Console___init__ (hr.mono (by omega)) (by rfl)) pa_nil)))) (pg_tup rfl (pgs_cons (pg_name (i := 6) sc_law.nd rfl (by first | exact Or.inl rfl | exact Or.inr rfl)) (pgs_cons (pg_name (i := 7) sc_law.nd rfl (by first | exact Or.inl rfl | exact Or.inr rfl)) (pgs_cons (pg_name (i := 8) sc_law.nd rfl (by first | exact Or.inl rfl | exact Or.inr rfl)) pgs_nil)))))
    (pss_cons (ps_set (i := 3) sc_law.nd rfl (by first | exact Or.inl rfl | exact Or.inr rfl) (pe_ix ix_list (pe_lst (pa_cons pe_int (pa_cons (pe_op op_pow pe_int pe_int) (pa_cons (pe_op op_pow pe_int pe_int) pa_nil)))) (pe_callH G_law_draw (hr.mono (by omega)) (by rfl) (pa_cons (pv 1) (pa_cons pe_int pa_nil))) (fun _ _ => rfl)))
    (pss_cons (ps_for PassesOwn.never rfl (pi_range1 (by rfl) T.n_range (pa_cons (pe_callH G_law_draw (hr.mono (by omega)) (by rfl) (pa_cons (pv 1) (pa_cons pe_int pa_nil))) pa_nil)) (pg_name (i := 4) sc_law.nd rfl (by first | exact Or.inl rfl | exact Or.inr rfl))
      (C8.pss_cut (ps_if (PW.pt (pw_and (pt_cmpR op_gt ((pe_callB (call_lenO G_Station___len__ (hr.mono (by omega))) (by rfl) T.n_len (by decide +kernel) (pa_cons (pv 7) pa_nil))) pe_int (nomark _)) (pw_and1 (pt_cmpR op_eq (pe_callH G_law_draw (hr.mono (by omega)) (by rfl) (pa_cons (pv 1) (pa_cons pe_int pa_nil))) pe_int (nomark _))))) (pss_cons (ps_expr (pe_meth0O (pv 7) TS.cl G_Station_undo (hr.mono (by omega))))
    (pss_one (ps_if (pt_cmpR op_ne (pe_methO (pv 6) TC.cl G_Console_execute (hr.mono (by omega)) (pa_cons pe_str pa_nil)) pe_str (nomark _)) (pss_one (ps_ret pe_bl)) pss_nil))) (pss_cons (ps_set (i := 9) sc_law.nd rfl (by first | exact Or.inl rfl | exact Or.inr rfl) (pe_callH G_law_call (hr.mono (by omega)) (by rfl) (pa_cons (pv 1) (pa_cons (pv 7) (pa_cons (pv 3) pa_nil)))))
    (pss_one (ps_if (pt_cmpR op_ne (pe_methO (pv 6) TC.cl G_Console_execute (hr.mono (by omega)) (pa_cons (pe_callH G_law_line (hr.mono (by omega)) (by rfl) (pa_cons (pv 1) (pa_cons (pv 9) pa_nil))) pa_nil)) (pe_callH G_law_apply (hr.mono (by omega)) (by rfl) (pa_cons (pv 7) (pa_cons (pv 9) pa_nil))) (nomark _)) (pss_one (ps_ret pe_bl)) pss_nil))))
    (pss_one (ps_if (pt_not (pt_val (pe_callH G_law_answers_right (hr.mono (by omega)) (by rfl) (pa_cons (pv 1) (pa_cons (pv 6) (pa_cons (pv 7) pa_nil)))))) (pss_one (ps_ret pe_bl)) pss_nil))))
    (pss_cons (ps_setLc (i := 5) (own := [("line", 10)]) rfl sc_law.nd rfl rfl (sw_true rfl rfl rfl (by decide +kernel)) (pi_list (pe_lst (pa_cons pe_str (pa_cons pe_str (pa_cons pe_str (pa_cons pe_str pa_nil)))))) (blkOk_by (N := ["script", "bag", "turn", "large", "step", "found", "some", "mate", "other", "call", "line"]) (sc := defScope s_law) (by decide +kernel)) (fun _ _ _ _ _ => (pg_name (i := 10) sc_law.nd rfl (by first | exact Or.inl rfl | exact Or.inr rfl))) (fun _ _ _ _ _ => pts_nil) (fun _ _ _ _ _ => (pe_methO (pv 8) TC.cl G_Console_execute (hr.mono (by omega)) (pa_cons (pv 10) pa_nil))))
    (pss_one (ps_if (pt_cmpR (op_neD hr.units) (pv 5) (pe_lst (pa_cons pe_str (pa_cons pe_str (pa_cons pe_str (pa_cons pe_str pa_nil))))) (nomark _)) (pss_one (ps_ret pe_bl)) pss_nil)))))))
    (pss_one (ps_ret pe_bl)))), ?_⟩
    refine ⟨_, rfl, a, ns, rfl, hS, l63, fun H1 pb cl s1 npb ncl zb1 => ?_⟩
    refine ⟨_, rfl, a, _, rfl, .inl (s1.seq hS), _, _, rfl, _, _, rfl, rfl, _, rfl, ?_, ?_, for_range (lo := 0) (n := _) (fun i σ H' => ∃ y2 y3 y4 y5 y6 y7 y8 y9 y10, σ = [some (.ref a), some (.ref pb), y2, y3, y4, y5, y6, y7, y8, y9, y10] ∧ Bag H' pb cl (2000 * i))
      ⟨_, _, _, _, _, _, _, _, _, rfl, zb1⟩ (fun i σ H2 hi hP => ?_) (fun σ H2 hP => ?_)⟩
    · rw [List.length_map]
      split <;> omega
    · rw [List.length_map]
      split <;> omega
    · obtain ⟨y2, y3, y4, y5, y6, y7, y8, y9, y10, rfl, z2⟩ := hP
      have hi : i ≤ 100 := by
        have hi : i < _ := hi
        rw [List.length_map] at hi
        split at hi <;> omega
      obtain ⟨N, eN⟩ : ∃ N : Nat, N = 2000 * i := ⟨_, rfl⟩
      have N1 : N ≤ 200000 := by omega
      rw [← eN] at z2
      refine fun q1 dx1 np1 nd1 nx1 => ⟨q1, dx1, rfl, upd_same, fun H4 p1 a1 r1 t1 b4 nnp1 na1 nr1 nt1 zc1 => ⟨rfl, ?_⟩⟩
      obtain ⟨s24, nnp1, na1, nr1, nt1⟩ := new_okC np1 nd1 b4 nnp1 na1 nr1 nt1
      refine fun p2 dx2 np2 nd2 nx2 => ⟨p2, dx2, rfl, upd_same, fun H5 a2 r2 t2 b5 na2 nr2 nt2 zs2 => ⟨rfl, ?_⟩⟩
      obtain ⟨s45, na2, nr2, nt2, _, _, _⟩ := new_ok np2 nd2 b5 na2 nr2 nt2
      refine fun q3 dx3 np3 nd3 nx3 => ⟨q3, dx3, rfl, upd_same, fun H6 p3 a3 r3 t3 b6 nnp3 na3 nr3 nt3 zc3 => ⟨rfl, ?_⟩⟩
      obtain ⟨s56, nnp3, na3, nr3, nt3⟩ := new_okC np3 nd3 b6 nnp3 na3 nr3 nt3
      have w0 := Wd.make z2 zc1 s24 ⟨np1, nnp1, na1, nr1, nt1⟩ (stnh0 zs2) s45 ⟨np2, na2, nr2, nt2⟩ zc3 s56 ⟨np3, nnp3, na3, nr3, nt3⟩
      clear zc1 zc3 zs2 b4 b5 b6
      refine ⟨(by show 3 ≤ sizeLine; decide), fun tt ntt => ?_⟩
      have st := same_upd (o := .tup [.ref q1, .ref p2, .ref q3]) ntt
      have htt := upd_same (H := H6) (a := tt) (o := .tup [.ref q1, .ref p2, .ref q3])
      have w1 := w0.same st
      clear w0
      generalize upd H6 tt (.tup [.ref q1, .ref p2, .ref q3]) = H7 at *
      refine ⟨tt, _, rfl, .of htt, rfl, _, _, rfl, _, _, rfl, _, _, rfl, rfl, ?_⟩
      refine ⟨_, _, rfl, rfl, ⟨by decide, by decide, by decide⟩, _, _, rfl, rfl, ⟨by decide, by decide, by decide⟩, (by show 3 ≤ sizeLine; decide), fun L nL => ?_⟩
      have sL := same_upd (o := .lst [.int 9, .int ((10 : Int) ^ ((9 : Int).toNat)), .int ((10 : Int) ^ ((28 : Int).toNat))]) nL
      have hL := upd_same (H := H7) (a := L) (o := .lst [.int 9, .int ((10 : Int) ^ ((9 : Int).toNat)), .int ((10 : Int) ^ ((28 : Int).toNat))])
      have w2 := w1.same sL
      have Lpb : L ≠ pb := w1.bg.ne nL
      generalize upd H7 L (.lst [.int 9, .int ((10 : Int) ^ ((9 : Int).toNat)), .int ((10 : Int) ^ ((28 : Int).toNat))]) = H8 at *
      refine ⟨_, rfl, pb, cl, N, 3, rfl, w2.bg, by omega, by decide, by decide, fun H9 r9 b9 z9 r90 r91 => ?_⟩
      obtain ⟨g, hg, eg⟩ := three_at (a := 9) (b := (10 : Int) ^ ((9 : Int).toNat)) (c := (10 : Int) ^ ((28 : Int).toNat)) r90 r91
      have g1 : 1 ≤ g ∧ g ≤ 10000000000000000000000000000 := by
        rw [p9, p28] at eg
        omega
      refine ⟨L, _, r9, _, rfl, rfl, .of (b9 _ _ Lpb hL), hg, ?_⟩
      have w3 := w2.bag b9 z9
      clear hg eg hL w1 w2
      refine ⟨_, rfl, pb, cl, N + 1, 61, rfl, w3.bg, by omega, by decide, by decide, fun H10 m b10 z10 m0 m1 => ?_⟩
      have w4 := w3.bag b10 z10
      clear w3
      refine ⟨_, rfl, by omega, by omega, for_range (lo := 0) (n := m.toNat) (fun j σ H' => ∃ y4 y5 y9 y10 n' r1 t1 r2 t2 M S es1 es2 os, σ = [some (.ref a), some (.ref pb), some (.int (0 + (i : Int))), some (.int g), y4, y5, some (.ref q1), some (.ref p2), some (.ref q3), y9, y10] ∧
          Wd CC C H' pb cl q1 p1 a1 p2 a2 q3 p3 a3 r3 t3 n' r1 t1 r2 t2 S S es1 es2 os ∧ Lk M S es1 es2 os ∧ os.length ≤ j ∧ n' ≤ N + 2 + 20 * j)
        ⟨_, _, _, _, _, _, _, _, _, _, _, _, _, _, rfl, w4, Lk.nil, Nat.zero_le _, by omega⟩ (fun j σ H11 hj hP => ?_) (fun σ H11 hP => ?_)⟩
      · obtain ⟨y4, y5, y9, y10, n', r1, t1, r2, t2, M, S, es1, es2, os, rfl, w5, lk, lo, ln⟩ := hP
        have hj : j < m.toNat := hj
        have lv := lk.lv
        have nn := lv.n (by omega)
        have nq := lv.q
        have mS : ∀ {H' : Hp} {n' : Nat}, Wd CC C H' pb cl q1 p1 a1 p2 a2 q3 p3 a3 r3 t3 n' r1 t1 r2 t2 S S es1 es2 os → Stn C H' p2 a2 r2 t2 S os := fun w => lk.e2 ▸ w.m.stn
        refine ⟨fun σ' H' => ∃ y9 n' r1 t1 r2 t2 M S es1 es2 os, σ' = [some (.ref a), some (.ref pb), some (.int (0 + (i : Int))), some (.int g), some (.int (0 + (j : Int))), y5, some (.ref q1), some (.ref p2), some (.ref q3), y9, y10] ∧
          Wd CC C H' pb cl q1 p1 a1 p2 a2 q3 p3 a3 r3 t3 n' r1 t1 r2 t2 S S es1 es2 os ∧ Lk M S es1 es2 os ∧ os.length ≤ j + 1 ∧ n' ≤ N + 2 + 20 * j + 10, ?_, fun σ' H12 hM => ?_⟩
        · have eO := w5.c.eo
          obtain ⟨dx1, fs1, hp1, lk1⟩ := (mS w5).at nf_len
          refine ⟨_, rfl, p2, dx1, fs1, rfl, hp1, ⟨p2, a2, r2, t2, S, os, rfl, mS w5, os.length, rfl, ?_, _, _, rfl, rfl, _, rfl, ?_⟩⟩
          · have : (os.length : Int) ≤ 60 := by omega
            exact Int.lt_of_le_of_lt this (by decide)
          by_cases c : (0 : Int) < os.length
          · refine iteP (decide_eq_true c) ⟨_, rfl, pb, cl, n', 6, rfl, w5.bg, by omega, by decide, by decide, fun H12 r12 b12 z12 r0 r1' => ⟨rfl, _, rfl, ite2 (fun e => ?_) (fun e => ?_)⟩⟩
            · have w6 := w5.bag b12 z12
              have le1 : es1.length = os.length := by rw [← eO, List.length_map]
              have le2 : es2.length = os.length := by rw [← lk.e2, List.length_map]
              rcases List.eq_nil_or_concat es1 with e0 | ⟨es1', e1, e0⟩
              · rw [e0] at le1
                have : os.length = 0 := le1.symm
                omega
              rw [List.concat_eq_append] at e0
              subst e0
              rcases List.eq_nil_or_concat es2 with e0 | ⟨es2', e2, e0⟩
              · rw [e0] at le2
                have : os.length = 0 := le2.symm
                omega
              rw [List.concat_eq_append] at e0
              subst e0
              obtain ⟨os', o, M', rfl, eS, lk'⟩ := lk.pop
              obtain ⟨dx1, fs1, hp1, lk1⟩ := w6.m.stn.at nf_undo
              refine ⟨_, rfl, p2, dx1, fs1, rfl, hp1, lk1, p2, a2, r2, t2, S, es2', e2, rfl, w6.m, fun H13 f13 z13 => ?_⟩
              have w7 := w6.snd f13 z13 (fun x hx => .inl (own_undo hx))
              obtain ⟨dxc, hq⟩ := id w7.c.ob
              refine ⟨_, rfl, q1, dxc, _, rfl, hq, fl1_no p1 (by decide +kernel), q1, p1, a1, r1, t1, S, es1' ++ [e1], os' ++ [o], "undo", [], by rw [join_one]; rfl, w7.c, .inr (.inr (.inr ⟨rfl, rfl, es1', e1, os', o, rfl, rfl, fun H14 f14 z14 => ?_⟩))⟩
              have w8 := w7.fst f14 z14 (fun x hx => .inl (own_undo hx))
              rw [eS] at w8
              refine ⟨rfl, _, rfl, iteN (by rw [decide_eq_true rfl]; rfl) ⟨_, _, _, _, _, _, _, _, _, _, _, rfl, w8, lk', ?_, by omega⟩⟩
              rw [List.length_append] at lo
              omega
            · exact callT (w5.bag b12 z12) lk (by omega) (by omega) g1 fun H' y9 n3 r1 t1 r2 t2 M S es1 es2 os' wd lk lo2 ln2 => ⟨_, _, _, _, _, _, _, _, _, _, _, rfl, wd, lk, by omega, by omega⟩
          · refine iteN (decide_eq_false c) ?_
            exact callT w5 lk (by omega) (by omega) g1 fun H' y9 n3 r1 t1 r2 t2 M S es1 es2 os' wd lk lo2 ln2 => ⟨_, _, _, _, _, _, _, _, _, _, _, rfl, wd, lk, by omega, by omega⟩
        · obtain ⟨y9, n', r1, t1, r2, t2, M, S, es1, es2, os, rfl, w6, lk, lo, ln⟩ := hM
          refine ⟨_, rfl, _, rfl, _, rfl, pb, cl, q1, p1, a1, p2, a2, q3, p3, a3, r3, t3, n', r1, t1, r2, t2, M, S, es1, es2, os, rfl, w6, by omega, lk, by omega, fun H13 b13 z13 => ⟨true, rfl, iteF ?_⟩⟩
          exact ⟨_, _, _, _, _, _, _, _, _, _, _, _, _, _, rfl, w6.bag b13 z13, lk, by omega, by omega⟩
      · obtain ⟨y4, y5, y9, y10, n', r1, t1, r2, t2, M, S, es1, es2, os, rfl, w5, lk, lo, ln⟩ := hP
        refine ⟨(by show 4 ≤ sizeLine; decide), fun ka nka => ?_⟩
        have s6 := same_upd (o := .lst (fourQ.map V.str)) nka
        have hka : (upd H11 ka (.lst [.str "state", .str "waiting", .str "arrivals", .str "sequence"])) ka = some (.lst (fourQ.map V.str)) := upd_same
        have s6 : Same H11 (upd H11 ka (.lst [.str "state", .str "waiting", .str "arrivals", .str "sequence"])) := same_upd nka
        have w6 := w5.same s6
        generalize upd H11 ka (.lst [.str "state", .str "waiting", .str "arrivals", .str "sequence"]) = H12 at *
        refine ⟨ka, rfl, ⟨_, .of hka⟩, fun W nW => lc_list (K := K) (a := ka) (xs := fourQ.map V.str) (fun j H' => Same H12 H' ∧ H' W = some (.lst ((fourZ.take j).map V.str))) ⟨same_upd nW, upd_same⟩ (fun j H' _ hP => .of (hP.1 _ _ hka)) (fun j x H13 ex hP => ?_) (fun H13 hP => ?_)⟩
        · obtain ⟨s13, hW⟩ := hP
          rw [List.getElem?_map] at ex
          cases ei : fourQ[j]? with
          | none =>
            rw [ei] at ex
            cases ex
          | some c =>
            rw [ei] at ex
            cases ex
            obtain ⟨z, ez, an⟩ := four_ans j c ei
            have w7 := w6.same s13
            obtain ⟨dxc, hq⟩ := id w7.t.ob
            refine ⟨rfl, yesT ⟨_, rfl, q3, dxc, _, rfl, hq, fl1_no p3 (by decide +kernel), _, rfl, q3, p3, a3, r3, t3, S0, [], [], c, [], by rw [join_one]; rfl, w7.t, .inl ⟨z, an, fun H14 s14 => ?_⟩⟩⟩
            refine ⟨_, s14 _ _ hW, ?_, same_grow nW (s13.trans s14), ?_⟩
            · have l4 : fourZ.length = 4 := rfl
              show ((fourZ.take j).map V.str).length < sizeLine
              rw [List.length_map, List.length_take]
              exact small (by omega)
            · rw [upd_same, take_snoc ez, List.map_append]
              rfl
        · obtain ⟨s13, hW⟩ := hP
          have hW : H13 W = some (.lst (fourZ.map V.str)) := hW
          refine ⟨_, rfl, (by show 4 ≤ sizeLine; decide), fun e ne => ?_⟩
          have se := same_upd (o := .lst (fourZ.map V.str)) ne
          have he : (upd H13 e (.lst [.str "-", .str "none", .str "0", .str "empty"])) e = some (.lst (fourZ.map V.str)) := upd_same
          have se : Same H13 (upd H13 e (.lst [.str "-", .str "none", .str "0", .str "empty"])) := same_upd ne
          have sg : ∀ z ∈ fourZ, StrG z := by
            intro z hz
            simp only [fourZ, List.mem_cons, List.not_mem_nil, or_false] at hz
            rcases hz with e | e | e | e <;> rw [e] <;> exact strG_of (by decide +kernel)
          refine ⟨.list (fourZ.map PyData.str), .list (fourZ.map PyData.str), .lst (.of (se _ _ hW)) (dp_strs _), .lst (.of he) (dp_strs _), shaped_strs sg, shaped_strs sg, _, rfl, iteN (by rw [eqv_strs]; rfl) ?_⟩
          exact ⟨_, _, _, _, _, _, _, _, _, rfl, ((w6.same s13).same se).bg.mono (by omega)⟩
    · exact q _
end
end UP

set_option Elab.async false
set_option linter.all false
set_option maxRecDepth 100000
set_option maxHeartbeats 4000000
namespace UP
open PySem PySem.Spec PyProof.Rows L2
section
variable {K : PySem.W.Frag} {h : Heap} {mg : Str → Option Value}
theorem df_mk {x : Str} {st : Stmt} {f : Addr} {od an : Option Addr} {sl : Array (Option Value)} {oc kV dc pm cd ct : Value} (X : K.In h) (G : h.Ns mainGlobals mg) (a : PySem.W.nsIn K mainGlobals x = some (some (.ref f)))
    (l : K.lookup f = some ⟨oc, od, .func (PySem.W.fnOf x x (defArgs st) (defBody st) (defScope st) .none kV dc pm an cd ct), sl⟩) (c : PySem.W.codeIn K cd x = true) (k : PySem.W.keepIn K (.ref f) = true) : Df K mg x st :=
  ⟨f, _, PySem.W.mg_of X G a, fun_mk l c k⟩
theorem dfd_mk {x : Str} {st : Stmt} {f T : Addr} {od an od2 : Option Addr} {sl sl2 : Array (Option Value)} {n2 : Nat} {oc kV dc pm cd ct oc2 : Value} (X : K.In h) (G : h.Ns mainGlobals mg) (a : PySem.W.nsIn K mainGlobals x = some (some (.ref f)))
    (l : K.lookup f = some ⟨oc, od, .func (PySem.W.fnOf x x (defArgs st) (defBody st) (defScope st) (.ref T) kV dc pm an cd ct), sl⟩) (t : K.lookup T = some ⟨oc2, od2, .seq #[.none] n2, sl2⟩) (c : PySem.W.codeIn K cd x = true) (k : PySem.W.keepIn K (.ref f) = true) : DfD K mg x st [.non] :=
  ⟨f, _, PySem.W.mg_of X G a, ⟨⟨oc, od, _, kV, dc, pm, an, cd, ct, sl, rfl, l, c, .inr ⟨(by intro z; cases z), T, _, [.none], n2, rfl, t, rfl, .cons rfl .nil⟩, .inl rfl⟩, k⟩⟩
theorem cst_mk {x : Str} {i : Int} {t : Tok} (X : K.In h) (G : h.Ns mainGlobals mg) (a : PySem.W.nsIn K mainGlobals x = some (some (.int i t))) : ∃ t, mg x = some (.int i t) := ⟨t, PySem.W.mg_of X G a⟩
def StationF (K : PySem.W.Frag) (mg : Str → Option Value) : Prop := ∃ C, ClsT K mg C ∧ DfI K C "Station.__init__" s_Station___init__ ∧ DfM K C "current_state" "Station.current_state" s_Station_current_state ∧ DfM K C "waiting_positions" "Station.waiting_positions" s_Station_waiting_positions ∧ DfM K C "arrival_count" "Station.arrival_count" s_Station_arrival_count ∧ DfM K C "pair_total" "Station.pair_total" s_Station_pair_total ∧ DfM K C "partner_at" "Station.partner_at" s_Station_partner_at ∧ DfM K C "__len__" "Station.__len__" s_Station___len__ ∧ DfM K C "operations_done" "Station.operations_done" s_Station_operations_done ∧ DfM K C "remember" "Station.remember" s_Station_remember ∧ DfMD K C "arrive" "Station.arrive" s_Station_arrive (.int 1) ∧ DfMD K C "give_up" "Station.give_up" s_Station_give_up (.int 1) ∧ DfM K C "undo" "Station.undo" s_Station_undo
theorem Station_mk {C : Addr} {f0 : Addr} {od0 an0 : Option Addr} {sl0 : Array (Option Value)} {oc0 kV0 dc0 pm0 cd0 ct0 : Value} {f1 : Addr} {od1 an1 : Option Addr} {sl1 : Array (Option Value)} {oc1 kV1 dc1 pm1 cd1 ct1 : Value} {f2 : Addr} {od2 an2 : Option Addr} {sl2 : Array (Option Value)} {oc2 kV2 dc2 pm2 cd2 ct2 : Value} {f3 : Addr} {od3 an3 : Option Addr} {sl3 : Array (Option Value)} {oc3 kV3 dc3 pm3 cd3 ct3 : Value} {f4 : Addr} {od4 an4 : Option Addr} {sl4 : Array (Option Value)} {oc4 kV4 dc4 pm4 cd4 ct4 : Value} {f5 : Addr} {od5 an5 : Option Addr} {sl5 : Array (Option Value)} {oc5 kV5 dc5 pm5 cd5 ct5 : Value} {f6 : Addr} {od6 an6 : Option Addr} {sl6 : Array (Option Value)} {oc6 kV6 dc6 pm6 cd6 ct6 : Value} {f7 : Addr} {od7 an7 : Option Addr} {sl7 : Array (Option Value)} {oc7 kV7 dc7 pm7 cd7 ct7 : Value} {f8 : Addr} {od8 an8 : Option Addr} {sl8 : Array (Option Value)} {oc8 kV8 dc8 pm8 cd8 ct8 : Value} {f9 : Addr} {od9 an9 : Option Addr} {sl9 : Array (Option Value)} {oc9 kV9 dc9 pm9 cd9 ct9 : Value} {T9 : Addr} {oe9 : Option Addr} {sm9 : Array (Option Value)} {n9 : Nat} {ob9 : Value} {tk9 : Tok} {f10 : Addr} {od10 an10 : Option Addr} {sl10 : Array (Option Value)} {oc10 kV10 dc10 pm10 cd10 ct10 : Value} {T10 : Addr} {oe10 : Option Addr} {sm10 : Array (Option Value)} {n10 : Nat} {ob10 : Value} {tk10 : Tok} {f11 : Addr} {od11 an11 : Option Addr} {sl11 : Array (Option Value)} {oc11 kV11 dc11 pm11 cd11 ct11 : Value} (X : K.In h) (G : h.Ns mainGlobals mg) (aC : PySem.W.nsIn K mainGlobals "Station" = some (some (.ref C)))
    (pg : PySem.W.plainGet K C Str.empty = true) (hd : PySem.W.hasDictIn K C = true) (po : PySem.W.plainOver K C = true) (sa : PySem.W.findIn K (.ref C) "__setattr__" = some (some (.builtin "object.__setattr__"))) (mk : PySem.W.makesIn K C = true) (kc : PySem.W.keepIn K (.ref C) = true)
    (z0 : PySem.W.findIn K (.ref C) "state" = some none)
    (z1 : PySem.W.findIn K (.ref C) "ranges" = some none)
    (z2 : PySem.W.findIn K (.ref C) "arrived" = some none)
    (z3 : PySem.W.findIn K (.ref C) "paired" = some none)
    (z4 : PySem.W.findIn K (.ref C) "blocks" = some none)
    (z5 : PySem.W.findIn K (.ref C) "past" = some none)
    (a0 : PySem.W.findIn K (.ref C) "__init__" = some (some (.ref f0))) (i0 : PySem.W.isFn K (.ref f0) = true) (l0 : K.lookup f0 = some ⟨oc0, od0, .func (PySem.W.fnOf "__init__" "Station.__init__" (defArgs s_Station___init__) (defBody s_Station___init__) (defScope s_Station___init__) .none kV0 dc0 pm0 an0 cd0 ct0), sl0⟩) (c0 : PySem.W.codeIn K cd0 "Station.__init__" = true) (k0 : PySem.W.keepIn K (.ref f0) = true)
    (a1 : PySem.W.findIn K (.ref C) "current_state" = some (some (.ref f1))) (i1 : PySem.W.isFn K (.ref f1) = true) (l1 : K.lookup f1 = some ⟨oc1, od1, .func (PySem.W.fnOf "current_state" "Station.current_state" (defArgs s_Station_current_state) (defBody s_Station_current_state) (defScope s_Station_current_state) .none kV1 dc1 pm1 an1 cd1 ct1), sl1⟩) (c1 : PySem.W.codeIn K cd1 "Station.current_state" = true) (k1 : PySem.W.keepIn K (.ref f1) = true)
    (a2 : PySem.W.findIn K (.ref C) "waiting_positions" = some (some (.ref f2))) (i2 : PySem.W.isFn K (.ref f2) = true) (l2 : K.lookup f2 = some ⟨oc2, od2, .func (PySem.W.fnOf "waiting_positions" "Station.waiting_positions" (defArgs s_Station_waiting_positions) (defBody s_Station_waiting_positions) (defScope s_Station_waiting_positions) .none kV2 dc2 pm2 an2 cd2 ct2), sl2⟩) (c2 : PySem.W.codeIn K cd2 "Station.waiting_positions" = true) (k2 : PySem.W.keepIn K (.ref f2) = true)
    (a3 : PySem.W.findIn K (.ref C) "arrival_count" = some (some (.ref f3))) (i3 : PySem.W.isFn K (.ref f3) = true) (l3 : K.lookup f3 = some ⟨oc3, od3, .func (PySem.W.fnOf "arrival_count" "Station.arrival_count" (defArgs s_Station_arrival_count) (defBody s_Station_arrival_count) (defScope s_Station_arrival_count) .none kV3 dc3 pm3 an3 cd3 ct3), sl3⟩) (c3 : PySem.W.codeIn K cd3 "Station.arrival_count" = true) (k3 : PySem.W.keepIn K (.ref f3) = true)
    (a4 : PySem.W.findIn K (.ref C) "pair_total" = some (some (.ref f4))) (i4 : PySem.W.isFn K (.ref f4) = true) (l4 : K.lookup f4 = some ⟨oc4, od4, .func (PySem.W.fnOf "pair_total" "Station.pair_total" (defArgs s_Station_pair_total) (defBody s_Station_pair_total) (defScope s_Station_pair_total) .none kV4 dc4 pm4 an4 cd4 ct4), sl4⟩) (c4 : PySem.W.codeIn K cd4 "Station.pair_total" = true) (k4 : PySem.W.keepIn K (.ref f4) = true)
    (a5 : PySem.W.findIn K (.ref C) "partner_at" = some (some (.ref f5))) (i5 : PySem.W.isFn K (.ref f5) = true) (l5 : K.lookup f5 = some ⟨oc5, od5, .func (PySem.W.fnOf "partner_at" "Station.partner_at" (defArgs s_Station_partner_at) (defBody s_Station_partner_at) (defScope s_Station_partner_at) .none kV5 dc5 pm5 an5 cd5 ct5), sl5⟩) (c5 : PySem.W.codeIn K cd5 "Station.partner_at" = true) (k5 : PySem.W.keepIn K (.ref f5) = true)
    (a6 : PySem.W.findIn K (.ref C) "__len__" = some (some (.ref f6))) (i6 : PySem.W.isFn K (.ref f6) = true) (l6 : K.lookup f6 = some ⟨oc6, od6, .func (PySem.W.fnOf "__len__" "Station.__len__" (defArgs s_Station___len__) (defBody s_Station___len__) (defScope s_Station___len__) .none kV6 dc6 pm6 an6 cd6 ct6), sl6⟩) (c6 : PySem.W.codeIn K cd6 "Station.__len__" = true) (k6 : PySem.W.keepIn K (.ref f6) = true)
    (a7 : PySem.W.findIn K (.ref C) "operations_done" = some (some (.ref f7))) (i7 : PySem.W.isFn K (.ref f7) = true) (l7 : K.lookup f7 = some ⟨oc7, od7, .func (PySem.W.fnOf "operations_done" "Station.operations_done" (defArgs s_Station_operations_done) (defBody s_Station_operations_done) (defScope s_Station_operations_done) .none kV7 dc7 pm7 an7 cd7 ct7), sl7⟩) (c7 : PySem.W.codeIn K cd7 "Station.operations_done" = true) (k7 : PySem.W.keepIn K (.ref f7) = true)
    (a8 : PySem.W.findIn K (.ref C) "remember" = some (some (.ref f8))) (i8 : PySem.W.isFn K (.ref f8) = true) (l8 : K.lookup f8 = some ⟨oc8, od8, .func (PySem.W.fnOf "remember" "Station.remember" (defArgs s_Station_remember) (defBody s_Station_remember) (defScope s_Station_remember) .none kV8 dc8 pm8 an8 cd8 ct8), sl8⟩) (c8 : PySem.W.codeIn K cd8 "Station.remember" = true) (k8 : PySem.W.keepIn K (.ref f8) = true)
    (a9 : PySem.W.findIn K (.ref C) "arrive" = some (some (.ref f9))) (i9 : PySem.W.isFn K (.ref f9) = true) (l9 : K.lookup f9 = some ⟨oc9, od9, .func (PySem.W.fnOf "arrive" "Station.arrive" (defArgs s_Station_arrive) (defBody s_Station_arrive) (defScope s_Station_arrive) (.ref T9) kV9 dc9 pm9 an9 cd9 ct9), sl9⟩) (c9 : PySem.W.codeIn K cd9 "Station.arrive" = true) (k9 : PySem.W.keepIn K (.ref f9) = true)
    (t9 : K.lookup T9 = some ⟨ob9, oe9, .seq #[.int 1 tk9] n9, sm9⟩)
    (a10 : PySem.W.findIn K (.ref C) "give_up" = some (some (.ref f10))) (i10 : PySem.W.isFn K (.ref f10) = true) (l10 : K.lookup f10 = some ⟨oc10, od10, .func (PySem.W.fnOf "give_up" "Station.give_up" (defArgs s_Station_give_up) (defBody s_Station_give_up) (defScope s_Station_give_up) (.ref T10) kV10 dc10 pm10 an10 cd10 ct10), sl10⟩) (c10 : PySem.W.codeIn K cd10 "Station.give_up" = true) (k10 : PySem.W.keepIn K (.ref f10) = true)
    (t10 : K.lookup T10 = some ⟨ob10, oe10, .seq #[.int 1 tk10] n10, sm10⟩)
    (a11 : PySem.W.findIn K (.ref C) "undo" = some (some (.ref f11))) (i11 : PySem.W.isFn K (.ref f11) = true) (l11 : K.lookup f11 = some ⟨oc11, od11, .func (PySem.W.fnOf "undo" "Station.undo" (defArgs s_Station_undo) (defBody s_Station_undo) (defScope s_Station_undo) .none kV11 dc11 pm11 an11 cd11 ct11), sl11⟩) (c11 : PySem.W.codeIn K cd11 "Station.undo" = true) (k11 : PySem.W.keepIn K (.ref f11) = true) : StationF K mg :=
  ⟨C, ⟨⟨pg, hd, po, sa⟩, z0, z1, z2, z3, z4, z5, PySem.W.mg_of X G aC⟩, ⟨f0, _, ⟨mk, a0, i0, kc⟩, fun_mk l0 c0 k0⟩, ⟨f1, _, ⟨a1, i1, k1⟩, fun_mk l1 c1 k1⟩, ⟨f2, _, ⟨a2, i2, k2⟩, fun_mk l2 c2 k2⟩, ⟨f3, _, ⟨a3, i3, k3⟩, fun_mk l3 c3 k3⟩, ⟨f4, _, ⟨a4, i4, k4⟩, fun_mk l4 c4 k4⟩, ⟨f5, _, ⟨a5, i5, k5⟩, fun_mk l5 c5 k5⟩, ⟨f6, _, ⟨a6, i6, k6⟩, fun_mk l6 c6 k6⟩, ⟨f7, _, ⟨a7, i7, k7⟩, fun_mk l7 c7 k7⟩, ⟨f8, _, ⟨a8, i8, k8⟩, fun_mk l8 c8 k8⟩, ⟨f9, _, ⟨a9, i9, k9⟩, ⟨⟨oc9, od9, _, kV9, dc9, pm9, an9, cd9, ct9, sl9, rfl, l9, c9, .inr ⟨(by intro z; cases z), T9, _, [.int 1 tk9], n9, rfl, t9, rfl, .cons ⟨tk9, rfl⟩ .nil⟩, .inl rfl⟩, k9⟩⟩, ⟨f10, _, ⟨a10, i10, k10⟩, ⟨⟨oc10, od10, _, kV10, dc10, pm10, an10, cd10, ct10, sl10, rfl, l10, c10, .inr ⟨(by intro z; cases z), T10, _, [.int 1 tk10], n10, rfl, t10, rfl, .cons ⟨tk10, rfl⟩ .nil⟩, .inl rfl⟩, k10⟩⟩, ⟨f11, _, ⟨a11, i11, k11⟩, fun_mk l11 c11 k11⟩⟩
def ConsoleF (K : PySem.W.Frag) (mg : Str → Option Value) : Prop := ∃ C, ClsC K mg C ∧ DfI K C "Console.__init__" s_Console___init__ ∧ DfM K C "answer" "Console.answer" s_Console_answer ∧ DfM K C "execute" "Console.execute" s_Console_execute
theorem Console_mk {C : Addr} {f0 : Addr} {od0 an0 : Option Addr} {sl0 : Array (Option Value)} {oc0 kV0 dc0 pm0 cd0 ct0 : Value} {f1 : Addr} {od1 an1 : Option Addr} {sl1 : Array (Option Value)} {oc1 kV1 dc1 pm1 cd1 ct1 : Value} {f2 : Addr} {od2 an2 : Option Addr} {sl2 : Array (Option Value)} {oc2 kV2 dc2 pm2 cd2 ct2 : Value} (X : K.In h) (G : h.Ns mainGlobals mg) (aC : PySem.W.nsIn K mainGlobals "Console" = some (some (.ref C)))
    (pg : PySem.W.plainGet K C Str.empty = true) (hd : PySem.W.hasDictIn K C = true) (po : PySem.W.plainOver K C = true) (sa : PySem.W.findIn K (.ref C) "__setattr__" = some (some (.builtin "object.__setattr__"))) (mk : PySem.W.makesIn K C = true) (kc : PySem.W.keepIn K (.ref C) = true)
    (z0 : PySem.W.findIn K (.ref C) "station" = some none)
    (a0 : PySem.W.findIn K (.ref C) "__init__" = some (some (.ref f0))) (i0 : PySem.W.isFn K (.ref f0) = true) (l0 : K.lookup f0 = some ⟨oc0, od0, .func (PySem.W.fnOf "__init__" "Console.__init__" (defArgs s_Console___init__) (defBody s_Console___init__) (defScope s_Console___init__) .none kV0 dc0 pm0 an0 cd0 ct0), sl0⟩) (c0 : PySem.W.codeIn K cd0 "Console.__init__" = true) (k0 : PySem.W.keepIn K (.ref f0) = true)
    (a1 : PySem.W.findIn K (.ref C) "answer" = some (some (.ref f1))) (i1 : PySem.W.isFn K (.ref f1) = true) (l1 : K.lookup f1 = some ⟨oc1, od1, .func (PySem.W.fnOf "answer" "Console.answer" (defArgs s_Console_answer) (defBody s_Console_answer) (defScope s_Console_answer) .none kV1 dc1 pm1 an1 cd1 ct1), sl1⟩) (c1 : PySem.W.codeIn K cd1 "Console.answer" = true) (k1 : PySem.W.keepIn K (.ref f1) = true)
    (a2 : PySem.W.findIn K (.ref C) "execute" = some (some (.ref f2))) (i2 : PySem.W.isFn K (.ref f2) = true) (l2 : K.lookup f2 = some ⟨oc2, od2, .func (PySem.W.fnOf "execute" "Console.execute" (defArgs s_Console_execute) (defBody s_Console_execute) (defScope s_Console_execute) .none kV2 dc2 pm2 an2 cd2 ct2), sl2⟩) (c2 : PySem.W.codeIn K cd2 "Console.execute" = true) (k2 : PySem.W.keepIn K (.ref f2) = true) : ConsoleF K mg :=
  ⟨C, ⟨⟨pg, hd, po, sa⟩, z0, PySem.W.mg_of X G aC⟩, ⟨f0, _, ⟨mk, a0, i0, kc⟩, fun_mk l0 c0 k0⟩, ⟨f1, _, ⟨a1, i1, k1⟩, fun_mk l1 c1 k1⟩, ⟨f2, _, ⟨a2, i2, k2⟩, fun_mk l2 c2 k2⟩⟩
def ComF (K : PySem.W.Frag) (w : World) (mg : Str → Option Value) : Prop := ∃ aC, CmdT K w mg aC
theorem com_mk {w : World} {aC : Addr} {eC : Array DictEntry} {nC : Nat} {t0 : Addr} {oe0 : Option Addr} {sm0 : Array (Option Value)} {n0 : Nat} {q00 : Tok} {q01 : Tok} {t1 : Addr} {oe1 : Option Addr} {sm1 : Array (Option Value)} {n1 : Nat} {q10 : Tok} {q11 : Tok} {t2 : Addr} {oe2 : Option Addr} {sm2 : Array (Option Value)} {n2 : Nat} {q20 : Tok} {t3 : Addr} {oe3 : Option Addr} {sm3 : Array (Option Value)} {n3 : Nat} {q30 : Tok} {t4 : Addr} {oe4 : Option Addr} {sm4 : Array (Option Value)} {n4 : Nat} {q40 : Tok} {t5 : Addr} {oe5 : Option Addr} {sm5 : Array (Option Value)} {n5 : Nat} {q50 : Tok} {t6 : Addr} {oe6 : Option Addr} {sm6 : Array (Option Value)} {n6 : Nat} {q60 : Tok} {t7 : Addr} {oe7 : Option Addr} {sm7 : Array (Option Value)} {n7 : Nat} {q70 : Tok} {t8 : Addr} {oe8 : Option Addr} {sm8 : Array (Option Value)} {n8 : Nat} {q80 : Tok} (X : K.In h) (G : h.Ns mainGlobals mg) (a : PySem.W.nsIn K mainGlobals "COMMANDS" = some (some (.ref aC))) (l : K.lookup aC = some ⟨.type "dict", none, .dict eC nC, #[]⟩) (kl : PySem.W.KeysLit w.params eC.toList) (lo : (aC == sysModules) = false)
    (m0 : PySem.W.nsIn K aC "arrive" = some (some (.ref t0))) (v0 : K.lookup t0 = some ⟨.type "tuple", oe0, .seq #[.str "W" q00, .str "WN" q01] n0, sm0⟩)
    (m1 : PySem.W.nsIn K aC "giveup" = some (some (.ref t1))) (v1 : K.lookup t1 = some ⟨.type "tuple", oe1, .seq #[.str "N" q10, .str "NN" q11] n1, sm1⟩)
    (m2 : PySem.W.nsIn K aC "undo" = some (some (.ref t2))) (v2 : K.lookup t2 = some ⟨.type "tuple", oe2, .seq #[.str "" q20] n2, sm2⟩)
    (m3 : PySem.W.nsIn K aC "state" = some (some (.ref t3))) (v3 : K.lookup t3 = some ⟨.type "tuple", oe3, .seq #[.str "" q30] n3, sm3⟩)
    (m4 : PySem.W.nsIn K aC "waiting" = some (some (.ref t4))) (v4 : K.lookup t4 = some ⟨.type "tuple", oe4, .seq #[.str "" q40] n4, sm4⟩)
    (m5 : PySem.W.nsIn K aC "partner" = some (some (.ref t5))) (v5 : K.lookup t5 = some ⟨.type "tuple", oe5, .seq #[.str "N" q50] n5, sm5⟩)
    (m6 : PySem.W.nsIn K aC "pairs" = some (some (.ref t6))) (v6 : K.lookup t6 = some ⟨.type "tuple", oe6, .seq #[.str "" q60] n6, sm6⟩)
    (m7 : PySem.W.nsIn K aC "arrivals" = some (some (.ref t7))) (v7 : K.lookup t7 = some ⟨.type "tuple", oe7, .seq #[.str "" q70] n7, sm7⟩)
    (m8 : PySem.W.nsIn K aC "sequence" = some (some (.ref t8))) (v8 : K.lookup t8 = some ⟨.type "tuple", oe8, .seq #[.str "" q80] n8, sm8⟩) : ComF K w mg :=
  ⟨aC, PySem.W.mg_of X G a, ⟨eC, nC, l, kl, lo⟩, (List.forall_mem_cons.mpr ⟨⟨t0, ⟨_, m0, rfl⟩, ⟨_, _, _, v0, rfl, rfl, (by show 2 ≤ sizeLine; decide), (.cons ⟨q00, rfl⟩ (.cons ⟨q01, rfl⟩ .nil))⟩⟩, (List.forall_mem_cons.mpr ⟨⟨t1, ⟨_, m1, rfl⟩, ⟨_, _, _, v1, rfl, rfl, (by show 2 ≤ sizeLine; decide), (.cons ⟨q10, rfl⟩ (.cons ⟨q11, rfl⟩ .nil))⟩⟩, (List.forall_mem_cons.mpr ⟨⟨t2, ⟨_, m2, rfl⟩, ⟨_, _, _, v2, rfl, rfl, (by show 1 ≤ sizeLine; decide), (.cons ⟨q20, rfl⟩ .nil)⟩⟩, (List.forall_mem_cons.mpr ⟨⟨t3, ⟨_, m3, rfl⟩, ⟨_, _, _, v3, rfl, rfl, (by show 1 ≤ sizeLine; decide), (.cons ⟨q30, rfl⟩ .nil)⟩⟩, (List.forall_mem_cons.mpr ⟨⟨t4, ⟨_, m4, rfl⟩, ⟨_, _, _, v4, rfl, rfl, (by show 1 ≤ sizeLine; decide), (.cons ⟨q40, rfl⟩ .nil)⟩⟩, (List.forall_mem_cons.mpr ⟨⟨t5, ⟨_, m5, rfl⟩, ⟨_, _, _, v5, rfl, rfl, (by show 1 ≤ sizeLine; decide), (.cons ⟨q50, rfl⟩ .nil)⟩⟩, (List.forall_mem_cons.mpr ⟨⟨t6, ⟨_, m6, rfl⟩, ⟨_, _, _, v6, rfl, rfl, (by show 1 ≤ sizeLine; decide), (.cons ⟨q60, rfl⟩ .nil)⟩⟩, (List.forall_mem_cons.mpr ⟨⟨t7, ⟨_, m7, rfl⟩, ⟨_, _, _, v7, rfl, rfl, (by show 1 ≤ sizeLine; decide), (.cons ⟨q70, rfl⟩ .nil)⟩⟩, (List.forall_mem_cons.mpr ⟨⟨t8, ⟨_, m8, rfl⟩, ⟨_, _, _, v8, rfl, rfl, (by show 1 ≤ sizeLine; decide), (.cons ⟨q80, rfl⟩ .nil)⟩⟩, (fun p hp => by cases hp)⟩)⟩)⟩)⟩)⟩)⟩)⟩)⟩)⟩)⟩
end
/-- all that the top has written -/
structure Top (K : PySem.W.Frag) (w : World) (mg : Str → Option Value) : Prop where
  T : Tx mg
  d_is_whole : Df K mg "is_whole" s_is_whole
  d_is_within : Df K mg "is_within" s_is_within
  d_is_listed : Df K mg "is_listed" s_is_listed
  d_is_couple : Df K mg "is_couple" s_is_couple
  d_is_kind : Df K mg "is_kind" s_is_kind
  d_is_run : Df K mg "is_run" s_is_run
  d_is_sequence : Df K mg "is_sequence" s_is_sequence
  d_is_state : Df K mg "is_state" s_is_state
  d_checked_runs : Df K mg "checked_runs" s_checked_runs
  d_check_kind : Df K mg "check_kind" s_check_kind
  d_checked_state : Df K mg "checked_state" s_checked_state
  d_add_run : Df K mg "add_run" s_add_run
  d_joined : Df K mg "joined" s_joined
  d_waiting_number : Df K mg "waiting_number" s_waiting_number
  d_state_with : Df K mg "state_with" s_state_with
  d_leaving_number : Df K mg "leaving_number" s_leaving_number
  d_state_after_run : Df K mg "state_after_run" s_state_after_run
  d_add_range : Df K mg "add_range" s_add_range
  d_only_first : Df K mg "only_first" s_only_first
  d_without_first : Df K mg "without_first" s_without_first
  d_ranges_after_run : Df K mg "ranges_after_run" s_ranges_after_run
  d_blocks_of_run : Df K mg "blocks_of_run" s_blocks_of_run
  d_partner_in : Df K mg "partner_in" s_partner_in
  d_is_digits : Df K mg "is_digits" s_is_digits
  d_is_decimal : Df K mg "is_decimal" s_is_decimal
  d_number_in : Df K mg "number_in" s_number_in
  d_run_word : Df K mg "run_word" s_run_word
  d_format_sequence : Df K mg "format_sequence" s_format_sequence
  d_format_state : Df K mg "format_state" s_format_state
  d_has_form : Df K mg "has_form" s_has_form
  d_checked_words : Df K mg "checked_words" s_checked_words
  d_text_of_ranges : Df K mg "text_of_ranges" s_text_of_ranges
  d_text_of_arrivals : Df K mg "text_of_arrivals" s_text_of_arrivals
  d_law_bag : Df K mg "_law_bag" s_law_bag
  d_law_stir : Df K mg "_law_stir" s_law_stir
  d_law_draw : Df K mg "_law_draw" s_law_draw
  d_law_call : Df K mg "_law_call" s_law_call
  d_law_line : Df K mg "_law_line" s_law_line
  d_law_apply : Df K mg "_law_apply" s_law_apply
  d_law_sequence : Df K mg "_law_sequence" s_law_sequence
  d_law_answers_right : Df K mg "_law_answers_right" s_law_answers_right
  y_Station : StationF K mg
  y_Console : ConsoleF K mg
  y_com : ComF K w mg
theorem Top.law {P : Program} {w : World} {K : PySem.W.Frag} {mg : Str → Option Value} (Y : Top K w mg) {f : Addr} {fd : FuncData} (F : Fun K "law" "law" s_law f fd) (base : Heap) : FnC P w K mg base f fd ["script"] (sp_law K) := by
  have T := Y.T
  obtain ⟨A_Station, TS, D_Station___init__, D_Station_current_state, D_Station_waiting_positions, D_Station_arrival_count, D_Station_pair_total, D_Station_partner_at, D_Station___len__, D_Station_operations_done, D_Station_remember, D_Station_arrive, D_Station_give_up, D_Station_undo⟩ := Y.y_Station
  obtain ⟨A_Console, TC, D_Console___init__, D_Console_answer, D_Console_execute⟩ := Y.y_Console
  obtain ⟨aC, CD⟩ := Y.y_com
  have g_is_whole := ok_is_whole (P := P) (w := w) (mg := mg) (base := base) Y.d_is_whole T
  have g_is_within := ok_is_within (P := P) (w := w) (mg := mg) (base := base) Y.d_is_within g_is_whole
  have g_is_listed := ok_is_listed (P := P) (w := w) (mg := mg) (base := base) Y.d_is_listed T
  have g_is_couple := ok_is_couple (P := P) (w := w) (mg := mg) (base := base) Y.d_is_couple T
  have g_is_kind := ok_is_kind (P := P) (w := w) (mg := mg) (base := base) Y.d_is_kind T
  have g_is_run := ok_is_run (P := P) (w := w) (mg := mg) (base := base) Y.d_is_run T g_is_couple g_is_kind g_is_within
  have g_is_state := ok_is_state (P := P) (w := w) (mg := mg) (base := base) Y.d_is_state T g_is_couple g_is_kind g_is_whole
  have g_is_sequence := ok_is_sequence (P := P) (w := w) (mg := mg) (base := base) Y.d_is_sequence T g_is_listed g_is_run
  have g_checked_runs := ok_checked_runs (P := P) (w := w) (mg := mg) (base := base) Y.d_checked_runs T g_is_sequence
  have g_checked_state := ok_checked_state (P := P) (w := w) (mg := mg) (base := base) Y.d_checked_state T g_is_state
  have g_waiting_number := ok_waiting_number (P := P) (w := w) (mg := mg) (base := base) Y.d_waiting_number
  have g_leaving_number := ok_leaving_number (P := P) (w := w) (mg := mg) (base := base) Y.d_leaving_number T
  have g_state_with := ok_state_with (P := P) (w := w) (mg := mg) (base := base) Y.d_state_with
  have g_state_after_run := ok_state_after_run (P := P) (w := w) (mg := mg) (base := base) Y.d_state_after_run g_waiting_number g_state_with
  have g_without_first := ok_without_first (P := P) (w := w) (mg := mg) (base := base) Y.d_without_first T
  have g_blocks_of_run := ok_blocks_of_run (P := P) (w := w) (mg := mg) (base := base) Y.d_blocks_of_run T
  have g_partner_in := ok_partner_in (P := P) (w := w) (mg := mg) (base := base) Y.d_partner_in
  have g_law_bag := ok_law_bag (P := P) (w := w) (mg := mg) (base := base) Y.d_law_bag T
  have g_law_stir := ok_law_stir (P := P) (w := w) (mg := mg) (base := base) Y.d_law_stir T
  have g_law_draw := ok_law_draw (P := P) (w := w) (mg := mg) (base := base) Y.d_law_draw T g_law_stir
  have g_check_kind := ok_check_kind (P := P) (w := w) (mg := mg) (base := base) Y.d_check_kind g_is_kind
  have g_only_first := ok_only_first (P := P) (w := w) (mg := mg) (base := base) Y.d_only_first T
  have g_add_range := ok_add_range (P := P) (w := w) (mg := mg) (base := base) Y.d_add_range
  have g_ranges_after_run := ok_ranges_after_run (P := P) (w := w) (mg := mg) (base := base) Y.d_ranges_after_run g_without_first g_add_range
  have g_Station___init__ := ok_Station___init__ (P := P) (w := w) (mg := mg) (base := base) D_Station___init__ TS
  have g_Station_current_state := ok_Station_current_state (P := P) (w := w) (mg := mg) (base := base) D_Station_current_state TS
  have g_Station_waiting_positions := ok_Station_waiting_positions (P := P) (w := w) (mg := mg) (base := base) D_Station_waiting_positions T TS
  have g_Station_arrival_count := ok_Station_arrival_count (P := P) (w := w) (mg := mg) (base := base) D_Station_arrival_count TS
  have g_Station_pair_total := ok_Station_pair_total (P := P) (w := w) (mg := mg) (base := base) D_Station_pair_total TS
  have g_Station_partner_at := ok_Station_partner_at (P := P) (w := w) (mg := mg) (base := base) D_Station_partner_at TS g_is_within g_partner_in
  have g_Station___len__ := ok_Station___len__ (P := P) (w := w) (mg := mg) (base := base) D_Station___len__ T TS
  have g_Station_operations_done := ok_Station_operations_done (P := P) (w := w) (mg := mg) (base := base) D_Station_operations_done TS
  have g_Station_remember := ok_Station_remember (P := P) (w := w) (mg := mg) (base := base) D_Station_remember TS
  have g_Station_arrive := ok_Station_arrive (P := P) (w := w) (mg := mg) (base := base) D_Station_arrive T TS g_check_kind g_is_within g_Station_remember g_leaving_number g_blocks_of_run g_ranges_after_run g_state_after_run
  have g_Station_give_up := ok_Station_give_up (P := P) (w := w) (mg := mg) (base := base) D_Station_give_up T TS g_waiting_number g_is_within g_Station_remember g_without_first g_only_first g_state_with
  have g_Station_undo := ok_Station_undo (P := P) (w := w) (mg := mg) (base := base) D_Station_undo T TS
  have g_add_run := ok_add_run (P := P) (w := w) (mg := mg) (base := base) Y.d_add_run
  have g_joined := ok_joined (P := P) (w := w) (mg := mg) (base := base) Y.d_joined T g_checked_runs g_add_run
  have g_is_digits := ok_is_digits (P := P) (w := w) (mg := mg) (base := base) Y.d_is_digits T
  have g_number_in := ok_number_in (P := P) (w := w) (mg := mg) (base := base) Y.d_number_in T
  have g_run_word := ok_run_word (P := P) (w := w) (mg := mg) (base := base) Y.d_run_word T
  have g_format_sequence := ok_format_sequence (P := P) (w := w) (mg := mg) (base := base) Y.d_format_sequence g_checked_runs g_run_word
  have g_format_state := ok_format_state (P := P) (w := w) (mg := mg) (base := base) Y.d_format_state g_checked_state g_run_word
  have g_is_decimal := ok_is_decimal (P := P) (w := w) (mg := mg) (base := base) Y.d_is_decimal g_is_digits
  have g_has_form := ok_has_form (P := P) (w := w) (mg := mg) (base := base) Y.d_has_form T g_is_decimal
  have g_checked_words := ok_checked_words (P := P) (w := w) (mg := mg) (base := base) Y.d_checked_words T CD g_has_form
  have g_text_of_ranges := ok_text_of_ranges (P := P) (w := w) (mg := mg) (base := base) Y.d_text_of_ranges T
  have g_text_of_arrivals := ok_text_of_arrivals (P := P) (w := w) (mg := mg) (base := base) Y.d_text_of_arrivals T g_joined g_format_sequence
  have g_Console___init__ := ok_Console___init__ (P := P) (w := w) (mg := mg) (base := base) D_Console___init__ TS TC g_Station___init__
  have g_Console_answer := ok_Console_answer (P := P) (w := w) (mg := mg) (base := base) D_Console_answer T TS TC g_format_state g_text_of_ranges g_number_in g_text_of_arrivals g_Station_current_state g_Station_waiting_positions g_Station_partner_at g_Station_pair_total g_Station_arrival_count g_Station_operations_done
  have g_Console_execute := ok_Console_execute (P := P) (w := w) (mg := mg) (base := base) D_Console_execute T TS TC g_checked_words g_number_in g_Console_answer g_Station_arrive g_Station_give_up g_Station_undo
  have g_law_call := ok_law_call (P := P) (w := w) (mg := mg) (base := base) Y.d_law_call T TS g_law_draw g_Station_current_state
  have g_law_line := ok_law_line (P := P) (w := w) (mg := mg) (base := base) Y.d_law_line T g_law_draw
  have g_law_apply := ok_law_apply (P := P) (w := w) (mg := mg) (base := base) Y.d_law_apply T TS g_Station_arrive g_Station_give_up
  have g_law_sequence := ok_law_sequence (P := P) (w := w) (mg := mg) (base := base) Y.d_law_sequence T TS g_Station_operations_done
  have g_law_answers_right := ok_law_answers_right (P := P) (w := w) (mg := mg) (base := base) Y.d_law_answers_right T TS TC g_law_draw g_format_state g_law_sequence g_Station_current_state g_Station_waiting_positions g_Station_partner_at g_Station_pair_total g_Station_arrival_count g_Console_execute
  exact fn_law F T TS TC g_law_bag g_law_draw g_Console___init__ g_Station___init__ g_Station___len__ g_Station_undo g_Console_execute g_law_call g_law_line g_law_apply g_law_answers_right
theorem all_mk {P : Program} {w : World} {K : PySem.W.Frag} {h : Heap} {mg : Str → Option Value} {fa f : Addr} {od an : Option Addr} {sl : Array (Option Value)} {oc kV dc pm cd ct : Value} (X : K.In h) (G : h.Ns mainGlobals mg) (hfa : mg "law" = some (.ref fa)) (a : PySem.W.nsIn K mainGlobals "law" = some (some (.ref f)))
    (l : K.lookup f = some ⟨oc, od, .func (PySem.W.fnOf "law" "law" (defArgs s_law) (defBody s_law) (defScope s_law) .none kV dc pm an cd ct), sl⟩) (c : PySem.W.codeIn K cd "law" = true) (k : PySem.W.keepIn K (.ref f) = true) (Y : Top K w mg) :
    ∃ fd : FuncData, (∀ (s : Shared) (v : Value), BindsTo s fd ⟨[v], []⟩ [("script", v)]) ∧ ∀ base : Heap, K.In base → base.Ns mainGlobals mg → FnC P w K mg base fa fd ["script"] (sp_law K) := by
  have e := hfa.symm.trans (PySem.W.mg_of X G a)
  cases e
  exact ⟨_, fun s v => .of_eq rfl, fun base _ _ => Y.law (fun_mk (st := s_law) l c k) base⟩
end UP
open PySem PySem.W PyProof.Rows
set_option maxHeartbeats 0 in
theorem PySem.Challenge.cw_unlikepairs_k57_console_and_station_holds : PySem.Challenge.rw_unlikepairs_k57_console_and_station.Holds := by
  w_on; o_law; k_head; (case hw => w_witness2)
  k_fill
  refine UP.walkC (l := PySem.Challenge.rw_unlikepairs_k57_console_and_station) (n := 63) (x := "script") (sp := fun w => UP.sp_law _) rfl (by decide) rfl (fun w h Y => PySem.W.kIn_of Y) ?F (fun _ _ a ns hl hS => ⟨a, ns, rfl, hS, hl, fun _ => rfl⟩)
  case F =>
    intro w mg fa h KX G hmg
    refine' UP.all_mk KX G hmg ?a ?l ?c ?k ?Y
    (case a => k_is); (case l => k_is); (case c => k_is); (case k => k_is)
    case Y =>
      constructor
      · constructor
        · refine' PySem.W.mg_none_of KX G ?z; (case z => k_is)
        · refine' PySem.W.mg_none_of KX G ?z; (case z => k_is)
        · refine' PySem.W.mg_none_of KX G ?z; (case z => k_is)
        · refine' PySem.W.mg_none_of KX G ?z; (case z => k_is)
        · refine' PySem.W.mg_none_of KX G ?z; (case z => k_is)
        · refine' PySem.W.mg_none_of KX G ?z; (case z => k_is)
        · refine' PySem.W.mg_none_of KX G ?z; (case z => k_is)
        · refine' PySem.W.mg_none_of KX G ?z; (case z => k_is)
        · refine' PySem.W.mg_none_of KX G ?z; (case z => k_is)
        · refine' PySem.W.mg_none_of KX G ?z; (case z => k_is)
        · refine' PySem.W.mg_none_of KX G ?z; (case z => k_is)
        · refine' PySem.W.mg_none_of KX G ?z; (case z => k_is)
        · refine' PySem.W.mg_none_of KX G ?z; (case z => k_is)
        · refine' PySem.W.mg_none_of KX G ?z; (case z => k_is)
        · refine' PySem.W.mg_none_of KX G ?z; (case z => k_is)
        · refine' PySem.W.mg_none_of KX G ?z; (case z => k_is)
        · refine' PySem.W.mg_none_of KX G ?z; (case z => k_is)
        · refine' PySem.W.mg_none_of KX G ?z; (case z => k_is)
        · refine' PySem.W.mg_none_of KX G ?z; (case z => k_is)
        · refine' PySem.W.mg_none_of KX G ?z; (case z => k_is)
        · refine' PySem.W.mg_none_of KX G ?z; (case z => k_is)
        · refine' PySem.W.mg_none_of KX G ?z; (case z => k_is)
        · refine' UP.cst_mk KX G ?z; (case z => k_is)
        · refine' UP.cst_mk KX G ?z; (case z => k_is)
        · refine' UP.cst_mk KX G ?z; (case z => k_is)
      · refine' UP.df_mk KX G ?a ?l ?c ?k; (case a => k_is); (case l => k_is); (case c => k_is); (case k => k_is)
      · refine' UP.df_mk KX G ?a ?l ?c ?k; (case a => k_is); (case l => k_is); (case c => k_is); (case k => k_is)
      · refine' UP.df_mk KX G ?a ?l ?c ?k; (case a => k_is); (case l => k_is); (case c => k_is); (case k => k_is)
      · refine' UP.df_mk KX G ?a ?l ?c ?k; (case a => k_is); (case l => k_is); (case c => k_is); (case k => k_is)
      · refine' UP.df_mk KX G ?a ?l ?c ?k; (case a => k_is); (case l => k_is); (case c => k_is); (case k => k_is)
      · refine' UP.df_mk KX G ?a ?l ?c ?k; (case a => k_is); (case l => k_is); (case c => k_is); (case k => k_is)
      · refine' UP.df_mk KX G ?a ?l ?c ?k; (case a => k_is); (case l => k_is); (case c => k_is); (case k => k_is)
      · refine' UP.df_mk KX G ?a ?l ?c ?k; (case a => k_is); (case l => k_is); (case c => k_is); (case k => k_is)
      · refine' UP.df_mk KX G ?a ?l ?c ?k; (case a => k_is); (case l => k_is); (case c => k_is); (case k => k_is)
      · refine' UP.df_mk KX G ?a ?l ?c ?k; (case a => k_is); (case l => k_is); (case c => k_is); (case k => k_is)
      · refine' UP.df_mk KX G ?a ?l ?c ?k; (case a => k_is); (case l => k_is); (case c => k_is); (case k => k_is)
      · refine' UP.df_mk KX G ?a ?l ?c ?k; (case a => k_is); (case l => k_is); (case c => k_is); (case k => k_is)
      · refine' UP.df_mk KX G ?a ?l ?c ?k; (case a => k_is); (case l => k_is); (case c => k_is); (case k => k_is)
      · refine' UP.df_mk KX G ?a ?l ?c ?k; (case a => k_is); (case l => k_is); (case c => k_is); (case k => k_is)
      · refine' UP.df_mk KX G ?a ?l ?c ?k; (case a => k_is); (case l => k_is); (case c => k_is); (case k => k_is)
      · refine' UP.df_mk KX G ?a ?l ?c ?k; (case a => k_is); (case l => k_is); (case c => k_is); (case k => k_is)
      · refine' UP.df_mk KX G ?a ?l ?c ?k; (case a => k_is); (case l => k_is); (case c => k_is); (case k => k_is)
      · refine' UP.df_mk KX G ?a ?l ?c ?k; (case a => k_is); (case l => k_is); (case c => k_is); (case k => k_is)
      · refine' UP.df_mk KX G ?a ?l ?c ?k; (case a => k_is); (case l => k_is); (case c => k_is); (case k => k_is)
      · refine' UP.df_mk KX G ?a ?l ?c ?k; (case a => k_is); (case l => k_is); (case c => k_is); (case k => k_is)
      · refine' UP.df_mk KX G ?a ?l ?c ?k; (case a => k_is); (case l => k_is); (case c => k_is); (case k => k_is)
      · refine' UP.df_mk KX G ?a ?l ?c ?k; (case a => k_is); (case l => k_is); (case c => k_is); (case k => k_is)
      · refine' UP.df_mk KX G ?a ?l ?c ?k; (case a => k_is); (case l => k_is); (case c => k_is); (case k => k_is)
      · refine' UP.df_mk KX G ?a ?l ?c ?k; (case a => k_is); (case l => k_is); (case c => k_is); (case k => k_is)
      · refine' UP.df_mk KX G ?a ?l ?c ?k; (case a => k_is); (case l => k_is); (case c => k_is); (case k => k_is)
      · refine' UP.df_mk KX G ?a ?l ?c ?k; (case a => k_is); (case l => k_is); (case c => k_is); (case k => k_is)
      · refine' UP.df_mk KX G ?a ?l ?c ?k; (case a => k_is); (case l => k_is); (case c => k_is); (case k => k_is)
      · refine' UP.df_mk KX G ?a ?l ?c ?k; (case a => k_is); (case l => k_is); (case c => k_is); (case k => k_is)
      · refine' UP.df_mk KX G ?a ?l ?c ?k; (case a => k_is); (case l => k_is); (case c => k_is); (case k => k_is)
      · refine' UP.df_mk KX G ?a ?l ?c ?k; (case a => k_is); (case l => k_is); (case c => k_is); (case k => k_is)
      · refine' UP.df_mk KX G ?a ?l ?c ?k; (case a => k_is); (case l => k_is); (case c => k_is); (case k => k_is)
      · refine' UP.df_mk KX G ?a ?l ?c ?k; (case a => k_is); (case l => k_is); (case c => k_is); (case k => k_is)
      · refine' UP.df_mk KX G ?a ?l ?c ?k; (case a => k_is); (case l => k_is); (case c => k_is); (case k => k_is)
      · refine' UP.df_mk KX G ?a ?l ?c ?k; (case a => k_is); (case l => k_is); (case c => k_is); (case k => k_is)
      · refine' UP.df_mk KX G ?a ?l ?c ?k; (case a => k_is); (case l => k_is); (case c => k_is); (case k => k_is)
      · refine' UP.df_mk KX G ?a ?l ?c ?k; (case a => k_is); (case l => k_is); (case c => k_is); (case k => k_is)
      · refine' UP.df_mk KX G ?a ?l ?c ?k; (case a => k_is); (case l => k_is); (case c => k_is); (case k => k_is)
      · refine' UP.df_mk KX G ?a ?l ?c ?k; (case a => k_is); (case l => k_is); (case c => k_is); (case k => k_is)
      · refine' UP.df_mk KX G ?a ?l ?c ?k; (case a => k_is); (case l => k_is); (case c => k_is); (case k => k_is)
      · refine' UP.df_mk KX G ?a ?l ?c ?k; (case a => k_is); (case l => k_is); (case c => k_is); (case k => k_is)
      · refine' UP.df_mk KX G ?a ?l ?c ?k; (case a => k_is); (case l => k_is); (case c => k_is); (case k => k_is)
      · refine' UP.Station_mk KX G ?aC ?pg ?hd ?po ?sa ?mk ?kc ?z0 ?z1 ?z2 ?z3 ?z4 ?z5 ?a0 ?i0 ?l0 ?c0 ?k0 ?a1 ?i1 ?l1 ?c1 ?k1 ?a2 ?i2 ?l2 ?c2 ?k2 ?a3 ?i3 ?l3 ?c3 ?k3 ?a4 ?i4 ?l4 ?c4 ?k4 ?a5 ?i5 ?l5 ?c5 ?k5 ?a6 ?i6 ?l6 ?c6 ?k6 ?a7 ?i7 ?l7 ?c7 ?k7 ?a8 ?i8 ?l8 ?c8 ?k8 ?a9 ?i9 ?l9 ?t9 ?c9 ?k9 ?a10 ?i10 ?l10 ?t10 ?c10 ?k10 ?a11 ?i11 ?l11 ?c11 ?k11
        (case aC => k_is)
        (case pg => k_is)
        (case hd => k_is)
        (case po => k_is)
        (case sa => k_is)
        (case mk => k_is)
        (case kc => k_is)
        (case z0 => k_is)
        (case z1 => k_is)
        (case z2 => k_is)
        (case z3 => k_is)
        (case z4 => k_is)
        (case z5 => k_is)
        (case a0 => k_is)
        (case i0 => k_is)
        (case l0 => k_is)
        (case c0 => k_is)
        (case k0 => k_is)
        (case a1 => k_is)
        (case i1 => k_is)
        (case l1 => k_is)
        (case c1 => k_is)
        (case k1 => k_is)
        (case a2 => k_is)
        (case i2 => k_is)
        (case l2 => k_is)
        (case c2 => k_is)
        (case k2 => k_is)
        (case a3 => k_is)
        (case i3 => k_is)
        (case l3 => k_is)
        (case c3 => k_is)
        (case k3 => k_is)
        (case a4 => k_is)
        (case i4 => k_is)
        (case l4 => k_is)
        (case c4 => k_is)
        (case k4 => k_is)
        (case a5 => k_is)
        (case i5 => k_is)
        (case l5 => k_is)
        (case c5 => k_is)
        (case k5 => k_is)
        (case a6 => k_is)
        (case i6 => k_is)
        (case l6 => k_is)
        (case c6 => k_is)
        (case k6 => k_is)
        (case a7 => k_is)
        (case i7 => k_is)
        (case l7 => k_is)
        (case c7 => k_is)
        (case k7 => k_is)
        (case a8 => k_is)
        (case i8 => k_is)
        (case l8 => k_is)
        (case c8 => k_is)
        (case k8 => k_is)
        (case a9 => k_is)
        (case i9 => k_is)
        (case l9 => k_is)
        (case t9 => k_is)
        (case c9 => k_is)
        (case k9 => k_is)
        (case a10 => k_is)
        (case i10 => k_is)
        (case l10 => k_is)
        (case t10 => k_is)
        (case c10 => k_is)
        (case k10 => k_is)
        (case a11 => k_is)
        (case i11 => k_is)
        (case l11 => k_is)
        (case c11 => k_is)
        (case k11 => k_is)
      · refine' UP.Console_mk KX G ?aC ?pg ?hd ?po ?sa ?mk ?kc ?z0 ?a0 ?i0 ?l0 ?c0 ?k0 ?a1 ?i1 ?l1 ?c1 ?k1 ?a2 ?i2 ?l2 ?c2 ?k2
        (case aC => k_is)
        (case pg => k_is)
        (case hd => k_is)
        (case po => k_is)
        (case sa => k_is)
        (case mk => k_is)
        (case kc => k_is)
        (case z0 => k_is)
        (case a0 => k_is)
        (case i0 => k_is)
        (case l0 => k_is)
        (case c0 => k_is)
        (case k0 => k_is)
        (case a1 => k_is)
        (case i1 => k_is)
        (case l1 => k_is)
        (case c1 => k_is)
        (case k1 => k_is)
        (case a2 => k_is)
        (case i2 => k_is)
        (case l2 => k_is)
        (case c2 => k_is)
        (case k2 => k_is)
      · refine' UP.com_mk KX G ?a ?l ?kl ?lo ?m0 ?v0 ?m1 ?v1 ?m2 ?v2 ?m3 ?v3 ?m4 ?v4 ?m5 ?v5 ?m6 ?v6 ?m7 ?v7 ?m8 ?v8
        (case a => k_is)
        (case l => k_is)
        (case kl => exact ⟨⟨_, _, rfl, rfl⟩, ⟨_, _, rfl, rfl⟩, ⟨_, _, rfl, rfl⟩, ⟨_, _, rfl, rfl⟩, ⟨_, _, rfl, rfl⟩, ⟨_, _, rfl, rfl⟩, ⟨_, _, rfl, rfl⟩, ⟨_, _, rfl, rfl⟩, ⟨_, _, rfl, rfl⟩, True.intro⟩)
        (case lo => rfl)
        (case m0 => k_is)
        (case v0 => k_is)
        (case m1 => k_is)
        (case v1 => k_is)
        (case m2 => k_is)
        (case v2 => k_is)
        (case m3 => k_is)
        (case v3 => k_is)
        (case m4 => k_is)
        (case v4 => k_is)
        (case m5 => k_is)
        (case v5 => k_is)
        (case m6 => k_is)
        (case v6 => k_is)
        (case m7 => k_is)
        (case v7 => k_is)
        (case m8 => k_is)
        (case v8 => k_is)
