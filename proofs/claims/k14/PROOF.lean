import PyProof.Rows.All
import Wide.All
import OpenK.AllK
import Wide.FinOn
import PyProof.EqAt
import PyProof.EqKinds
import PyProof.TupleCall
import HandS.ForMost
import HandS.IsInst
import HandS.Property
import HandS.Zip
import HandS.Walk
import HandS.TupAny
import KE.GoesEnum
import HandS.Exc
import HandS.ExcInit
import HandS.Nested
import KE.KExcSuper
import KE.RegKSuper
import HandS.TryMany
import HandS.ExcIs
import HandS.ExcField
import HandS.Style
import HandS.TupMul
import HandS.SlotsOwn
import HandS.OwnEq
import HandS.ExcOwn
import OpenK.KOps
import HandS.FStr
import HandS.WordsExc
import HandS.Text
import HandS.Deep
import PySem.Challenge.RW_butfewrows_k14_texts_refused
set_option Elab.async false
set_option linter.all false
set_option maxRecDepth 100000
set_option maxHeartbeats 4000000
namespace BF
open PySem PySem.Spec L2 RZ
open PyProof.Rows hiding St
theorem e_v0 {r : St} {v : V} {H : Hp} {Q : VK} (q : Q v H) : tVar 0 (some v :: r) H Q := ⟨v, rfl, q⟩
theorem e_v1 {a0 : Option V} {r : St} {v : V} {H : Hp} {Q : VK} (q : Q v H) : tVar 1 (a0 :: some v :: r) H Q := ⟨v, rfl, q⟩
theorem e_v2 {a0 a1 : Option V} {r : St} {v : V} {H : Hp} {Q : VK} (q : Q v H) : tVar 2 (a0 :: a1 :: some v :: r) H Q := ⟨v, rfl, q⟩
theorem e_v3 {a0 a1 a2 : Option V} {r : St} {v : V} {H : Hp} {Q : VK} (q : Q v H) : tVar 3 (a0 :: a1 :: a2 :: some v :: r) H Q := ⟨v, rfl, q⟩
theorem e_v4 {a0 a1 a2 a3 : Option V} {r : St} {v : V} {H : Hp} {Q : VK} (q : Q v H) : tVar 4 (a0 :: a1 :: a2 :: a3 :: some v :: r) H Q := ⟨v, rfl, q⟩
theorem e_v5 {a0 a1 a2 a3 a4 : Option V} {r : St} {v : V} {H : Hp} {Q : VK} (q : Q v H) : tVar 5 (a0 :: a1 :: a2 :: a3 :: a4 :: some v :: r) H Q := ⟨v, rfl, q⟩
theorem e_v6 {a0 a1 a2 a3 a4 a5 : Option V} {r : St} {v : V} {H : Hp} {Q : VK} (q : Q v H) : tVar 6 (a0 :: a1 :: a2 :: a3 :: a4 :: a5 :: some v :: r) H Q := ⟨v, rfl, q⟩
theorem e_v7 {a0 a1 a2 a3 a4 a5 a6 : Option V} {r : St} {v : V} {H : Hp} {Q : VK} (q : Q v H) : tVar 7 (a0 :: a1 :: a2 :: a3 :: a4 :: a5 :: a6 :: some v :: r) H Q := ⟨v, rfl, q⟩
theorem e_v8 {a0 a1 a2 a3 a4 a5 a6 a7 : Option V} {r : St} {v : V} {H : Hp} {Q : VK} (q : Q v H) : tVar 8 (a0 :: a1 :: a2 :: a3 :: a4 :: a5 :: a6 :: a7 :: some v :: r) H Q := ⟨v, rfl, q⟩
theorem e_v9 {a0 a1 a2 a3 a4 a5 a6 a7 a8 : Option V} {r : St} {v : V} {H : Hp} {Q : VK} (q : Q v H) : tVar 9 (a0 :: a1 :: a2 :: a3 :: a4 :: a5 :: a6 :: a7 :: a8 :: some v :: r) H Q := ⟨v, rfl, q⟩
theorem e_v10 {a0 a1 a2 a3 a4 a5 a6 a7 a8 a9 : Option V} {r : St} {v : V} {H : Hp} {Q : VK} (q : Q v H) : tVar 10 (a0 :: a1 :: a2 :: a3 :: a4 :: a5 :: a6 :: a7 :: a8 :: a9 :: some v :: r) H Q := ⟨v, rfl, q⟩
theorem e_v11 {a0 a1 a2 a3 a4 a5 a6 a7 a8 a9 a10 : Option V} {r : St} {v : V} {H : Hp} {Q : VK} (q : Q v H) : tVar 11 (a0 :: a1 :: a2 :: a3 :: a4 :: a5 :: a6 :: a7 :: a8 :: a9 :: a10 :: some v :: r) H Q := ⟨v, rfl, q⟩
theorem e_v12 {a0 a1 a2 a3 a4 a5 a6 a7 a8 a9 a10 a11 : Option V} {r : St} {v : V} {H : Hp} {Q : VK} (q : Q v H) : tVar 12 (a0 :: a1 :: a2 :: a3 :: a4 :: a5 :: a6 :: a7 :: a8 :: a9 :: a10 :: a11 :: some v :: r) H Q := ⟨v, rfl, q⟩
theorem e_v13 {a0 a1 a2 a3 a4 a5 a6 a7 a8 a9 a10 a11 a12 : Option V} {r : St} {v : V} {H : Hp} {Q : VK} (q : Q v H) : tVar 13 (a0 :: a1 :: a2 :: a3 :: a4 :: a5 :: a6 :: a7 :: a8 :: a9 :: a10 :: a11 :: a12 :: some v :: r) H Q := ⟨v, rfl, q⟩
theorem e_v14 {a0 a1 a2 a3 a4 a5 a6 a7 a8 a9 a10 a11 a12 a13 : Option V} {r : St} {v : V} {H : Hp} {Q : VK} (q : Q v H) : tVar 14 (a0 :: a1 :: a2 :: a3 :: a4 :: a5 :: a6 :: a7 :: a8 :: a9 :: a10 :: a11 :: a12 :: a13 :: some v :: r) H Q := ⟨v, rfl, q⟩
theorem e_v15 {a0 a1 a2 a3 a4 a5 a6 a7 a8 a9 a10 a11 a12 a13 a14 : Option V} {r : St} {v : V} {H : Hp} {Q : VK} (q : Q v H) : tVar 15 (a0 :: a1 :: a2 :: a3 :: a4 :: a5 :: a6 :: a7 :: a8 :: a9 :: a10 :: a11 :: a12 :: a13 :: a14 :: some v :: r) H Q := ⟨v, rfl, q⟩
theorem e_v16 {a0 a1 a2 a3 a4 a5 a6 a7 a8 a9 a10 a11 a12 a13 a14 a15 : Option V} {r : St} {v : V} {H : Hp} {Q : VK} (q : Q v H) : tVar 16 (a0 :: a1 :: a2 :: a3 :: a4 :: a5 :: a6 :: a7 :: a8 :: a9 :: a10 :: a11 :: a12 :: a13 :: a14 :: a15 :: some v :: r) H Q := ⟨v, rfl, q⟩
theorem e_v17 {a0 a1 a2 a3 a4 a5 a6 a7 a8 a9 a10 a11 a12 a13 a14 a15 a16 : Option V} {r : St} {v : V} {H : Hp} {Q : VK} (q : Q v H) : tVar 17 (a0 :: a1 :: a2 :: a3 :: a4 :: a5 :: a6 :: a7 :: a8 :: a9 :: a10 :: a11 :: a12 :: a13 :: a14 :: a15 :: a16 :: some v :: r) H Q := ⟨v, rfl, q⟩
theorem e_v18 {a0 a1 a2 a3 a4 a5 a6 a7 a8 a9 a10 a11 a12 a13 a14 a15 a16 a17 : Option V} {r : St} {v : V} {H : Hp} {Q : VK} (q : Q v H) : tVar 18 (a0 :: a1 :: a2 :: a3 :: a4 :: a5 :: a6 :: a7 :: a8 :: a9 :: a10 :: a11 :: a12 :: a13 :: a14 :: a15 :: a16 :: a17 :: some v :: r) H Q := ⟨v, rfl, q⟩
theorem e_v19 {a0 a1 a2 a3 a4 a5 a6 a7 a8 a9 a10 a11 a12 a13 a14 a15 a16 a17 a18 : Option V} {r : St} {v : V} {H : Hp} {Q : VK} (q : Q v H) : tVar 19 (a0 :: a1 :: a2 :: a3 :: a4 :: a5 :: a6 :: a7 :: a8 :: a9 :: a10 :: a11 :: a12 :: a13 :: a14 :: a15 :: a16 :: a17 :: a18 :: some v :: r) H Q := ⟨v, rfl, q⟩
theorem e_v20 {a0 a1 a2 a3 a4 a5 a6 a7 a8 a9 a10 a11 a12 a13 a14 a15 a16 a17 a18 a19 : Option V} {r : St} {v : V} {H : Hp} {Q : VK} (q : Q v H) : tVar 20 (a0 :: a1 :: a2 :: a3 :: a4 :: a5 :: a6 :: a7 :: a8 :: a9 :: a10 :: a11 :: a12 :: a13 :: a14 :: a15 :: a16 :: a17 :: a18 :: a19 :: some v :: r) H Q := ⟨v, rfl, q⟩
theorem e_v21 {a0 a1 a2 a3 a4 a5 a6 a7 a8 a9 a10 a11 a12 a13 a14 a15 a16 a17 a18 a19 a20 : Option V} {r : St} {v : V} {H : Hp} {Q : VK} (q : Q v H) : tVar 21 (a0 :: a1 :: a2 :: a3 :: a4 :: a5 :: a6 :: a7 :: a8 :: a9 :: a10 :: a11 :: a12 :: a13 :: a14 :: a15 :: a16 :: a17 :: a18 :: a19 :: a20 :: some v :: r) H Q := ⟨v, rfl, q⟩
theorem e_v22 {a0 a1 a2 a3 a4 a5 a6 a7 a8 a9 a10 a11 a12 a13 a14 a15 a16 a17 a18 a19 a20 a21 : Option V} {r : St} {v : V} {H : Hp} {Q : VK} (q : Q v H) : tVar 22 (a0 :: a1 :: a2 :: a3 :: a4 :: a5 :: a6 :: a7 :: a8 :: a9 :: a10 :: a11 :: a12 :: a13 :: a14 :: a15 :: a16 :: a17 :: a18 :: a19 :: a20 :: a21 :: some v :: r) H Q := ⟨v, rfl, q⟩
theorem e_v23 {a0 a1 a2 a3 a4 a5 a6 a7 a8 a9 a10 a11 a12 a13 a14 a15 a16 a17 a18 a19 a20 a21 a22 : Option V} {r : St} {v : V} {H : Hp} {Q : VK} (q : Q v H) : tVar 23 (a0 :: a1 :: a2 :: a3 :: a4 :: a5 :: a6 :: a7 :: a8 :: a9 :: a10 :: a11 :: a12 :: a13 :: a14 :: a15 :: a16 :: a17 :: a18 :: a19 :: a20 :: a21 :: a22 :: some v :: r) H Q := ⟨v, rfl, q⟩
theorem e_v24 {a0 a1 a2 a3 a4 a5 a6 a7 a8 a9 a10 a11 a12 a13 a14 a15 a16 a17 a18 a19 a20 a21 a22 a23 : Option V} {r : St} {v : V} {H : Hp} {Q : VK} (q : Q v H) : tVar 24 (a0 :: a1 :: a2 :: a3 :: a4 :: a5 :: a6 :: a7 :: a8 :: a9 :: a10 :: a11 :: a12 :: a13 :: a14 :: a15 :: a16 :: a17 :: a18 :: a19 :: a20 :: a21 :: a22 :: a23 :: some v :: r) H Q := ⟨v, rfl, q⟩
theorem e_v25 {a0 a1 a2 a3 a4 a5 a6 a7 a8 a9 a10 a11 a12 a13 a14 a15 a16 a17 a18 a19 a20 a21 a22 a23 a24 : Option V} {r : St} {v : V} {H : Hp} {Q : VK} (q : Q v H) : tVar 25 (a0 :: a1 :: a2 :: a3 :: a4 :: a5 :: a6 :: a7 :: a8 :: a9 :: a10 :: a11 :: a12 :: a13 :: a14 :: a15 :: a16 :: a17 :: a18 :: a19 :: a20 :: a21 :: a22 :: a23 :: a24 :: some v :: r) H Q := ⟨v, rfl, q⟩
theorem g_n0 {a0 : Option V} {r : St} {v : V} {H : Hp} {Q : St → Hp → Prop} (q : Q (some v :: r) H) : gName 0 v (a0 :: r) H Q := q
theorem g_n1 {a0 a1 : Option V} {r : St} {v : V} {H : Hp} {Q : St → Hp → Prop} (q : Q (a0 :: some v :: r) H) : gName 1 v (a0 :: a1 :: r) H Q := q
theorem g_n2 {a0 a1 a2 : Option V} {r : St} {v : V} {H : Hp} {Q : St → Hp → Prop} (q : Q (a0 :: a1 :: some v :: r) H) : gName 2 v (a0 :: a1 :: a2 :: r) H Q := q
theorem g_n3 {a0 a1 a2 a3 : Option V} {r : St} {v : V} {H : Hp} {Q : St → Hp → Prop} (q : Q (a0 :: a1 :: a2 :: some v :: r) H) : gName 3 v (a0 :: a1 :: a2 :: a3 :: r) H Q := q
theorem g_n4 {a0 a1 a2 a3 a4 : Option V} {r : St} {v : V} {H : Hp} {Q : St → Hp → Prop} (q : Q (a0 :: a1 :: a2 :: a3 :: some v :: r) H) : gName 4 v (a0 :: a1 :: a2 :: a3 :: a4 :: r) H Q := q
theorem g_n5 {a0 a1 a2 a3 a4 a5 : Option V} {r : St} {v : V} {H : Hp} {Q : St → Hp → Prop} (q : Q (a0 :: a1 :: a2 :: a3 :: a4 :: some v :: r) H) : gName 5 v (a0 :: a1 :: a2 :: a3 :: a4 :: a5 :: r) H Q := q
theorem g_n6 {a0 a1 a2 a3 a4 a5 a6 : Option V} {r : St} {v : V} {H : Hp} {Q : St → Hp → Prop} (q : Q (a0 :: a1 :: a2 :: a3 :: a4 :: a5 :: some v :: r) H) : gName 6 v (a0 :: a1 :: a2 :: a3 :: a4 :: a5 :: a6 :: r) H Q := q
theorem g_n7 {a0 a1 a2 a3 a4 a5 a6 a7 : Option V} {r : St} {v : V} {H : Hp} {Q : St → Hp → Prop} (q : Q (a0 :: a1 :: a2 :: a3 :: a4 :: a5 :: a6 :: some v :: r) H) : gName 7 v (a0 :: a1 :: a2 :: a3 :: a4 :: a5 :: a6 :: a7 :: r) H Q := q
theorem g_n8 {a0 a1 a2 a3 a4 a5 a6 a7 a8 : Option V} {r : St} {v : V} {H : Hp} {Q : St → Hp → Prop} (q : Q (a0 :: a1 :: a2 :: a3 :: a4 :: a5 :: a6 :: a7 :: some v :: r) H) : gName 8 v (a0 :: a1 :: a2 :: a3 :: a4 :: a5 :: a6 :: a7 :: a8 :: r) H Q := q
theorem g_n9 {a0 a1 a2 a3 a4 a5 a6 a7 a8 a9 : Option V} {r : St} {v : V} {H : Hp} {Q : St → Hp → Prop} (q : Q (a0 :: a1 :: a2 :: a3 :: a4 :: a5 :: a6 :: a7 :: a8 :: some v :: r) H) : gName 9 v (a0 :: a1 :: a2 :: a3 :: a4 :: a5 :: a6 :: a7 :: a8 :: a9 :: r) H Q := q
theorem g_n10 {a0 a1 a2 a3 a4 a5 a6 a7 a8 a9 a10 : Option V} {r : St} {v : V} {H : Hp} {Q : St → Hp → Prop} (q : Q (a0 :: a1 :: a2 :: a3 :: a4 :: a5 :: a6 :: a7 :: a8 :: a9 :: some v :: r) H) : gName 10 v (a0 :: a1 :: a2 :: a3 :: a4 :: a5 :: a6 :: a7 :: a8 :: a9 :: a10 :: r) H Q := q
theorem g_n11 {a0 a1 a2 a3 a4 a5 a6 a7 a8 a9 a10 a11 : Option V} {r : St} {v : V} {H : Hp} {Q : St → Hp → Prop} (q : Q (a0 :: a1 :: a2 :: a3 :: a4 :: a5 :: a6 :: a7 :: a8 :: a9 :: a10 :: some v :: r) H) : gName 11 v (a0 :: a1 :: a2 :: a3 :: a4 :: a5 :: a6 :: a7 :: a8 :: a9 :: a10 :: a11 :: r) H Q := q
theorem g_n12 {a0 a1 a2 a3 a4 a5 a6 a7 a8 a9 a10 a11 a12 : Option V} {r : St} {v : V} {H : Hp} {Q : St → Hp → Prop} (q : Q (a0 :: a1 :: a2 :: a3 :: a4 :: a5 :: a6 :: a7 :: a8 :: a9 :: a10 :: a11 :: some v :: r) H) : gName 12 v (a0 :: a1 :: a2 :: a3 :: a4 :: a5 :: a6 :: a7 :: a8 :: a9 :: a10 :: a11 :: a12 :: r) H Q := q
theorem g_n13 {a0 a1 a2 a3 a4 a5 a6 a7 a8 a9 a10 a11 a12 a13 : Option V} {r : St} {v : V} {H : Hp} {Q : St → Hp → Prop} (q : Q (a0 :: a1 :: a2 :: a3 :: a4 :: a5 :: a6 :: a7 :: a8 :: a9 :: a10 :: a11 :: a12 :: some v :: r) H) : gName 13 v (a0 :: a1 :: a2 :: a3 :: a4 :: a5 :: a6 :: a7 :: a8 :: a9 :: a10 :: a11 :: a12 :: a13 :: r) H Q := q
theorem g_n14 {a0 a1 a2 a3 a4 a5 a6 a7 a8 a9 a10 a11 a12 a13 a14 : Option V} {r : St} {v : V} {H : Hp} {Q : St → Hp → Prop} (q : Q (a0 :: a1 :: a2 :: a3 :: a4 :: a5 :: a6 :: a7 :: a8 :: a9 :: a10 :: a11 :: a12 :: a13 :: some v :: r) H) : gName 14 v (a0 :: a1 :: a2 :: a3 :: a4 :: a5 :: a6 :: a7 :: a8 :: a9 :: a10 :: a11 :: a12 :: a13 :: a14 :: r) H Q := q
theorem g_n15 {a0 a1 a2 a3 a4 a5 a6 a7 a8 a9 a10 a11 a12 a13 a14 a15 : Option V} {r : St} {v : V} {H : Hp} {Q : St → Hp → Prop} (q : Q (a0 :: a1 :: a2 :: a3 :: a4 :: a5 :: a6 :: a7 :: a8 :: a9 :: a10 :: a11 :: a12 :: a13 :: a14 :: some v :: r) H) : gName 15 v (a0 :: a1 :: a2 :: a3 :: a4 :: a5 :: a6 :: a7 :: a8 :: a9 :: a10 :: a11 :: a12 :: a13 :: a14 :: a15 :: r) H Q := q
theorem g_n16 {a0 a1 a2 a3 a4 a5 a6 a7 a8 a9 a10 a11 a12 a13 a14 a15 a16 : Option V} {r : St} {v : V} {H : Hp} {Q : St → Hp → Prop} (q : Q (a0 :: a1 :: a2 :: a3 :: a4 :: a5 :: a6 :: a7 :: a8 :: a9 :: a10 :: a11 :: a12 :: a13 :: a14 :: a15 :: some v :: r) H) : gName 16 v (a0 :: a1 :: a2 :: a3 :: a4 :: a5 :: a6 :: a7 :: a8 :: a9 :: a10 :: a11 :: a12 :: a13 :: a14 :: a15 :: a16 :: r) H Q := q
theorem g_n17 {a0 a1 a2 a3 a4 a5 a6 a7 a8 a9 a10 a11 a12 a13 a14 a15 a16 a17 : Option V} {r : St} {v : V} {H : Hp} {Q : St → Hp → Prop} (q : Q (a0 :: a1 :: a2 :: a3 :: a4 :: a5 :: a6 :: a7 :: a8 :: a9 :: a10 :: a11 :: a12 :: a13 :: a14 :: a15 :: a16 :: some v :: r) H) : gName 17 v (a0 :: a1 :: a2 :: a3 :: a4 :: a5 :: a6 :: a7 :: a8 :: a9 :: a10 :: a11 :: a12 :: a13 :: a14 :: a15 :: a16 :: a17 :: r) H Q := q
theorem g_n18 {a0 a1 a2 a3 a4 a5 a6 a7 a8 a9 a10 a11 a12 a13 a14 a15 a16 a17 a18 : Option V} {r : St} {v : V} {H : Hp} {Q : St → Hp → Prop} (q : Q (a0 :: a1 :: a2 :: a3 :: a4 :: a5 :: a6 :: a7 :: a8 :: a9 :: a10 :: a11 :: a12 :: a13 :: a14 :: a15 :: a16 :: a17 :: some v :: r) H) : gName 18 v (a0 :: a1 :: a2 :: a3 :: a4 :: a5 :: a6 :: a7 :: a8 :: a9 :: a10 :: a11 :: a12 :: a13 :: a14 :: a15 :: a16 :: a17 :: a18 :: r) H Q := q
theorem g_n19 {a0 a1 a2 a3 a4 a5 a6 a7 a8 a9 a10 a11 a12 a13 a14 a15 a16 a17 a18 a19 : Option V} {r : St} {v : V} {H : Hp} {Q : St → Hp → Prop} (q : Q (a0 :: a1 :: a2 :: a3 :: a4 :: a5 :: a6 :: a7 :: a8 :: a9 :: a10 :: a11 :: a12 :: a13 :: a14 :: a15 :: a16 :: a17 :: a18 :: some v :: r) H) : gName 19 v (a0 :: a1 :: a2 :: a3 :: a4 :: a5 :: a6 :: a7 :: a8 :: a9 :: a10 :: a11 :: a12 :: a13 :: a14 :: a15 :: a16 :: a17 :: a18 :: a19 :: r) H Q := q
theorem g_n20 {a0 a1 a2 a3 a4 a5 a6 a7 a8 a9 a10 a11 a12 a13 a14 a15 a16 a17 a18 a19 a20 : Option V} {r : St} {v : V} {H : Hp} {Q : St → Hp → Prop} (q : Q (a0 :: a1 :: a2 :: a3 :: a4 :: a5 :: a6 :: a7 :: a8 :: a9 :: a10 :: a11 :: a12 :: a13 :: a14 :: a15 :: a16 :: a17 :: a18 :: a19 :: some v :: r) H) : gName 20 v (a0 :: a1 :: a2 :: a3 :: a4 :: a5 :: a6 :: a7 :: a8 :: a9 :: a10 :: a11 :: a12 :: a13 :: a14 :: a15 :: a16 :: a17 :: a18 :: a19 :: a20 :: r) H Q := q
theorem g_n21 {a0 a1 a2 a3 a4 a5 a6 a7 a8 a9 a10 a11 a12 a13 a14 a15 a16 a17 a18 a19 a20 a21 : Option V} {r : St} {v : V} {H : Hp} {Q : St → Hp → Prop} (q : Q (a0 :: a1 :: a2 :: a3 :: a4 :: a5 :: a6 :: a7 :: a8 :: a9 :: a10 :: a11 :: a12 :: a13 :: a14 :: a15 :: a16 :: a17 :: a18 :: a19 :: a20 :: some v :: r) H) : gName 21 v (a0 :: a1 :: a2 :: a3 :: a4 :: a5 :: a6 :: a7 :: a8 :: a9 :: a10 :: a11 :: a12 :: a13 :: a14 :: a15 :: a16 :: a17 :: a18 :: a19 :: a20 :: a21 :: r) H Q := q
theorem g_n22 {a0 a1 a2 a3 a4 a5 a6 a7 a8 a9 a10 a11 a12 a13 a14 a15 a16 a17 a18 a19 a20 a21 a22 : Option V} {r : St} {v : V} {H : Hp} {Q : St → Hp → Prop} (q : Q (a0 :: a1 :: a2 :: a3 :: a4 :: a5 :: a6 :: a7 :: a8 :: a9 :: a10 :: a11 :: a12 :: a13 :: a14 :: a15 :: a16 :: a17 :: a18 :: a19 :: a20 :: a21 :: some v :: r) H) : gName 22 v (a0 :: a1 :: a2 :: a3 :: a4 :: a5 :: a6 :: a7 :: a8 :: a9 :: a10 :: a11 :: a12 :: a13 :: a14 :: a15 :: a16 :: a17 :: a18 :: a19 :: a20 :: a21 :: a22 :: r) H Q := q
theorem g_n23 {a0 a1 a2 a3 a4 a5 a6 a7 a8 a9 a10 a11 a12 a13 a14 a15 a16 a17 a18 a19 a20 a21 a22 a23 : Option V} {r : St} {v : V} {H : Hp} {Q : St → Hp → Prop} (q : Q (a0 :: a1 :: a2 :: a3 :: a4 :: a5 :: a6 :: a7 :: a8 :: a9 :: a10 :: a11 :: a12 :: a13 :: a14 :: a15 :: a16 :: a17 :: a18 :: a19 :: a20 :: a21 :: a22 :: some v :: r) H) : gName 23 v (a0 :: a1 :: a2 :: a3 :: a4 :: a5 :: a6 :: a7 :: a8 :: a9 :: a10 :: a11 :: a12 :: a13 :: a14 :: a15 :: a16 :: a17 :: a18 :: a19 :: a20 :: a21 :: a22 :: a23 :: r) H Q := q
theorem g_n24 {a0 a1 a2 a3 a4 a5 a6 a7 a8 a9 a10 a11 a12 a13 a14 a15 a16 a17 a18 a19 a20 a21 a22 a23 a24 : Option V} {r : St} {v : V} {H : Hp} {Q : St → Hp → Prop} (q : Q (a0 :: a1 :: a2 :: a3 :: a4 :: a5 :: a6 :: a7 :: a8 :: a9 :: a10 :: a11 :: a12 :: a13 :: a14 :: a15 :: a16 :: a17 :: a18 :: a19 :: a20 :: a21 :: a22 :: a23 :: some v :: r) H) : gName 24 v (a0 :: a1 :: a2 :: a3 :: a4 :: a5 :: a6 :: a7 :: a8 :: a9 :: a10 :: a11 :: a12 :: a13 :: a14 :: a15 :: a16 :: a17 :: a18 :: a19 :: a20 :: a21 :: a22 :: a23 :: a24 :: r) H Q := q
theorem g_n25 {a0 a1 a2 a3 a4 a5 a6 a7 a8 a9 a10 a11 a12 a13 a14 a15 a16 a17 a18 a19 a20 a21 a22 a23 a24 a25 : Option V} {r : St} {v : V} {H : Hp} {Q : St → Hp → Prop} (q : Q (a0 :: a1 :: a2 :: a3 :: a4 :: a5 :: a6 :: a7 :: a8 :: a9 :: a10 :: a11 :: a12 :: a13 :: a14 :: a15 :: a16 :: a17 :: a18 :: a19 :: a20 :: a21 :: a22 :: a23 :: a24 :: some v :: r) H) : gName 25 v (a0 :: a1 :: a2 :: a3 :: a4 :: a5 :: a6 :: a7 :: a8 :: a9 :: a10 :: a11 :: a12 :: a13 :: a14 :: a15 :: a16 :: a17 :: a18 :: a19 :: a20 :: a21 :: a22 :: a23 :: a24 :: a25 :: r) H Q := q
/-! ### unions of rules, so that a term asks no types -/
def rOr (r r' : R2) : R2 := fun x y H Q => r x y H Q ∨ r' x y H Q
theorem op_or {X : Cx} {f : Value → Value → Sem Value} {r r' : R2} (h : OpR X f r) (h' : OpR X f r') : OpR X f (rOr r r') :=
  fun pins s σ H x y v u Q I rx ry q => q.elim (fun q => h pins s σ H x y v u Q I rx ry q) (fun q => h' pins s σ H x y v u Q I rx ry q)
def cOr (r r' : List V → Hp → VK → Prop) : List V → Hp → VK → Prop := fun xs H Q => r xs H Q ∨ r' xs H Q
theorem call_or {X : Cx} {f : Value} {r r' : List V → Hp → VK → Prop} (h : CallR X f r) (h' : CallR X f r') : CallR X f (cOr r r') :=
  fun pins s σ H xs us Q I rs q => q.elim (fun q => h pins s σ H xs us Q I rs q) (fun q => h' pins s σ H xs us Q I rs q)
def iOr (w w' : TI) : TI := fun σ H R => w σ H R ∨ w' σ H R
theorem pi_or {X : Cx} {tg iter : Expr} {w w' : TI} (h : PI X tg iter w) (h' : PI X tg iter w') : PI X tg iter (iOr w w') :=
  ⟨fun pins s σ H R I q => q.elim (fun q => h.run pins s σ H R I q) (fun q => h'.run pins s σ H R I q)⟩
def slOr (r r' : V → Option Int → Option Int → Hp → VK → Prop) : V → Option Int → Option Int → Hp → VK → Prop := fun x l u H Q => r x l u H Q ∨ r' x l u H Q
theorem sl_or {X : Cx} {r r' : V → Option Int → Option Int → Hp → VK → Prop} (h : SlR X r) (h' : SlR X r') : SlR X (slOr r r') := by
  intro pins s σ H x v vl vu lo hi sl Q I rx hs pl pu q
  rcases q with q | q
  · exact h pins s σ H x v vl vu lo hi sl Q I rx hs pl pu q
  · exact h' pins s σ H x v vl vu lo hi sl Q I rx hs pl pu q
/-- t * k, t a tuple is elsewhere; + of ints, lists, tuples, texts -/
def rAddS : R2 := fun x y H Q => ∃ i j, x = .str i ∧ y = .str j ∧ i.length + j.length ≤ sizeLine ∧ Q (.str (i ++ j)) H
def rAddU (K : PySem.W.Frag) : R2 := rOr (rI0 fun i j => .int (i + j)) (rOr rCat (rOr (rCatA K) rAddS))
theorem op_addU {X : Cx} : OpR X (binaryOp .Add) (rAddU X.K) := op_or op_add (op_or op_cat (op_or op_catA op_add_str))
def rMulU : R2 := rOr (rI CMul fun i j => .int (i * j)) rRep
theorem op_mulU {X : Cx} : OpR X (binaryOp .Mult) rMulU := op_or op_mul op_rep
def rEqU (K : PySem.W.Frag) : R2 := rOr rEq (rEqD K)
def rNeU (K : PySem.W.Frag) : R2 := rOr rNe (rNeD K)
theorem op_eqU {X : Cx} (hu : X.A.units + 64 < cLine) : OpR X (compareOp .Eq) (rEqU X.K) := op_or op_eq (op_eqD hu)
theorem op_neU {X : Cx} (hu : X.A.units + 64 < cLine) : OpR X (compareOp .NotEq) (rNeU X.K) := op_or op_ne (op_neD hu)
def iSeq (K : PySem.W.Frag) (t : TE) : TI := iOr (iList K t) (iTup K t)
theorem pi_seq {X : Cx} {tg l : Expr} {tl : TE} (hl : PE X l tl) : PI X tg l (iSeq X.K tl) := pi_or (pi_list hl) (pi_tup hl)
def rSlU (K : PySem.W.Frag) : V → Option Int → Option Int → Hp → VK → Prop := slOr (rSlL K) (rSlA K)
theorem sl_U {X : Cx} : SlR X (rSlU X.K) := sl_or sl_list sl_tupA

def rLenU (K : PySem.W.Frag) : List V → Hp → VK → Prop := fun xs H Q => ∃ x n, xs = [x] ∧ LenV K x H n ∧ Q (.int n) H
theorem call_lenU {X : Cx} : CallR X (.builtin "len") (rLenU X.K) := call_len
def rIntU : List V → Hp → VK → Prop := fun xs H Q => (∃ i, xs = [.int i] ∧ Q (.int i) H) ∨ ∃ k, xs = [.bl k] ∧ Q (.int (if k then 1 else 0)) H
theorem call_intU {X : Cx} : CallR X (.type "int") rIntU := call_int1
def rListU (K : PySem.W.Frag) : List V → Hp → VK → Prop := fun xs H Q => ∃ p ys, xs = [.ref p] ∧ (SqL K H p ys ∨ SqT K H p ys) ∧ ∀ l, H l = none → Q (.ref l) (upd H l (.lst ys))
theorem call_listU {X : Cx} : CallR X (.type "list") (rListU X.K) := call_list_of
def rTupU (K : PySem.W.Frag) : List V → Hp → VK → Prop := fun xs H Q => ∃ p ys, xs = [.ref p] ∧ ((SqL K H p ys ∧ ∀ l, H l = none → Q (.ref l) (upd H l (.tup ys))) ∨ (SqT K H p ys ∧ Q (.ref p) H))
theorem call_tupU {X : Cx} : CallR X (.type "tuple") (rTupU X.K) := call_tuple_of
def rMaxU : List V → Hp → VK → Prop := fun xs H Q => ∃ i j, xs = [.int i, .int j] ∧ Q (.int (if j > i then j else i)) H
theorem call_maxU {X : Cx} (hc : X.calm = true) : CallR X (.builtin "max") rMaxU := call_max2 hc
def rMinU : List V → Hp → VK → Prop := fun xs H Q => ∃ i j, xs = [.int i, .int j] ∧ Q (.int (if j < i then j else i)) H
theorem call_minU {X : Cx} (hc : X.calm = true) : CallR X (.builtin "min") rMinU := call_min2 hc

/-- a new tuple, a new list of the items -/
def mkT (Q : VK) : List V → Hp → Prop := fun xs H1 => xs.length ≤ sizeLine ∧ ∀ p, H1 p = none → Q (.ref p) (upd H1 p (.tup xs))
def mkL (Q : VK) : List V → Hp → Prop := fun xs H1 => xs.length ≤ sizeLine ∧ ∀ p, H1 p = none → Q (.ref p) (upd H1 p (.lst xs))
/-- a new object of a class: its __init__'s promise, then the object -/
def mkO (C : Addr) (sp : Sp) (E : XK) (Q : VK) : List V → Hp → Prop := fun vs H1 => ∀ x dx, H1 x = none → H1 dx = none → dx ≠ x → sp (.ref x :: vs) (upd (upd H1 dx (.own x)) x (.ins C dx [])) (fun v H2 => v = .non ∧ Q (.ref x) H2) E
/-! ### steps -/
section
variable {K : PySem.W.Frag} {σ : St} {H : Hp} {D : Ends} {Q : VK} {QB : Bool → Hp → Prop} {QA : List V → Hp → Prop} {t u : TS} {ta tb te tc : TE} {tt tu : TT} {tr : TA} {g : TG}
theorem s_nx {f : St → Hp → Prop} {r : VK} {b c : St → Hp → Prop} (q : f σ H) : Ends.nx ⟨f, r, b, c⟩ σ H := q
theorem s_rt {f : St → Hp → Prop} {r : VK} {b c : St → Hp → Prop} {v : V} (q : r v H) : Ends.rt ⟨f, r, b, c⟩ v H := q
theorem s_bk {f : St → Hp → Prop} {r : VK} {b c : St → Hp → Prop} (q : b σ H) : Ends.bk ⟨f, r, b, c⟩ σ H := q
theorem s_ct {f : St → Hp → Prop} {r : VK} {b c : St → Hp → Prop} (q : c σ H) : Ends.ct ⟨f, r, b, c⟩ σ H := q
theorem nxs {σ' : St} (e : σ = σ') (q : D.nx σ' H) : D.nx σ H := by
  rw [e]
  exact q
theorem e_cut (P : VK) (h : ∀ R : VK, (∀ v H', P v H' → R v H') → te σ H R) (q : ∀ v H', P v H' → Q v H') : te σ H Q := h Q q
theorem s_par {i j : Nat} (q : tr σ H fun vs H1 => ∃ v w, vs = [v, w] ∧ D.nx ((σ.set i (some v)).set j (some w)) H1) : tPar i j tr D σ H := q
theorem ty_l {T : String} {p : Addr} {xs : List V} (e : T = "list") (h : H p = some (.lst xs)) : tyV K T (.ref p) H := .inl ⟨e, _, .inl (.inl h)⟩
theorem s_seq (q : t { D with nx := u D } σ H) : tSeq t u D σ H := q
theorem s_next (q : D.nx σ H) : tNext D σ H := q
theorem s_asg (q : te σ H fun x H1 => g x σ H1 D.nx) : tAsg te g D σ H := q
theorem s_exp (q : te σ H fun _ H1 => D.nx σ H1) : tDrop te D σ H := q
theorem s_ret (q : te σ H D.rt) : tRet te D σ H := q
theorem s_if (q : tt σ H fun b H1 => if b = true then t D σ H1 else u D σ H1) : tIfS tt t u D σ H := q
theorem s_brk (q : D.bk σ H) : tBreak D σ H := q
theorem s_cnt (q : D.ct σ H) : tCont D σ H := q
theorem e_c {v : V} (q : Q v H) : tC v σ H Q := q
theorem e_op {r : R2} (q : ta σ H fun x H1 => tb σ H1 fun y H2 => r x y H2 Q) : tOp r ta tb σ H Q := q
theorem e_un {r : V → Hp → VK → Prop} (q : ta σ H fun x H1 => r x H1 Q) : tUn r ta σ H Q := q
theorem e_test (q : te σ H fun x H' => ∃ k, x = .bl k ∧ QB k H') : tTest te σ H QB := q
theorem e_tB (q : te σ H fun x H' => ∃ k, x = .bl k ∧ QB k H') : tB te σ H QB := q
theorem e_and (q : tt σ H fun c H1 => if c = true then tu σ H1 QB else QB false H1) : tAnd tt tu σ H QB := q
theorem e_or (q : tt σ H fun c H1 => if c = true then QB true H1 else tu σ H1 QB) : tOr tt tu σ H QB := q
theorem e_not (q : tt σ H fun c H1 => QB (!c) H1) : tNot tt σ H QB := q
theorem e_andV (q : ta σ H fun x H1 => ∃ c, x = .bl c ∧ if c = true then tb σ H1 Q else Q (.bl false) H1) : tAndV ta tb σ H Q := q
theorem e_orV (q : ta σ H fun x H1 => ∃ c, x = .bl c ∧ if c = true then Q (.bl true) H1 else tb σ H1 Q) : tOrV ta tb σ H Q := q
theorem e_notV (q : ta σ H fun x H1 => ∃ c, x = .bl c ∧ Q (.bl (!c)) H1) : tNotV ta σ H Q := q
theorem e_ife (q : tt σ H fun c H1 => if c = true then ta σ H1 Q else tb σ H1 Q) : tIf tt ta tb σ H Q := q
theorem e_chain {r r' : R2} (q : ta σ H fun x H1 => tb σ H1 fun y H2 => r x y H2 fun z H3 => ∃ k, z = .bl k ∧ (if k = true then tc σ H3 fun w' H4 => r' y w' H4 Q else Q (.bl false) H3)) : tChain r r' ta tb tc σ H Q := q
theorem e_tup (q : tr σ H (mkT Q)) : tTup tr σ H Q := q
theorem e_lst (q : tr σ H (mkL Q)) : tLst tr σ H Q := q
theorem a_nil (q : QA [] H) : tNil σ H QA := q
theorem a_cons {tr : TA} (q : te σ H fun x H1 => tr σ H1 fun xs H2 => QA (x :: xs) H2) : tCons te tr σ H QA := q
theorem e_cb {r : List V → Hp → VK → Prop} (q : tr σ H fun vs H1 => r vs H1 Q) : tCB r tr σ H Q := q
theorem e_call {sp : Sp} {E : XK} (q : tr σ H fun vs H1 => sp vs H1 Q E) : tCall sp [] E tr σ H Q := by
  show tr σ H fun vs H1 => sp (vs ++ []) H1 Q E
  have e : (fun vs H1 => sp (vs ++ []) H1 Q E) = fun vs H1 => sp vs H1 Q E := by
    funext vs H1
    rw [List.append_nil]
  rw [e]
  exact q
theorem e_make {C : Addr} {sp : Sp} {E : XK} (q : tr σ H (mkO C sp E Q)) : tMake C sp [] E tr σ H Q := by
  have e : (fun vs H1 => ∀ x dx, H1 x = none → H1 dx = none → dx ≠ x → sp (.ref x :: (vs ++ [])) (upd (upd H1 dx (.own x)) x (.ins C dx [])) (fun v H2 => v = .non ∧ Q (.ref x) H2) E) = mkO C sp E Q := by
    funext vs H1
    rw [List.append_nil]
    rfl
  show tr σ H (fun vs H1 => ∀ x dx, H1 x = none → H1 dx = none → dx ≠ x → sp (.ref x :: (vs ++ [])) (upd (upd H1 dx (.own x)) x (.ins C dx [])) (fun v H2 => v = .non ∧ Q (.ref x) H2) E)
  rw [e]
  exact q
theorem e_prop {C : Addr} {sp : Sp} {E : XK} (q : te σ H fun x H1 => ∃ a dx fs, x = .ref a ∧ H1 a = some (.ins C dx fs) ∧ sp [.ref a] H1 Q E) : tProp C sp [] E te σ H Q := q
theorem e_meth {C : Addr} {m : Str} {sp : Sp} {E : XK} (q : te σ H fun x H1 => ∃ a dx fs, x = .ref a ∧ H1 a = some (.ins C dx fs) ∧ fs.lookup m = none ∧ tr σ H1 fun vs H2 => sp (x :: (vs ++ [])) H2 Q E) : tMeth C m sp [] E te tr σ H Q := q
theorem e_bm {T : String} {r : V → List V → Hp → VK → Prop} (q : te σ H fun x H1 => tyV K T x H1 ∧ tr σ H1 fun xs H2 => r x xs H2 Q) : tBM K T r te tr σ H Q := q
theorem e_bm0 {T : String} {r : V → List V → Hp → VK → Prop} (q : te σ H fun x H1 => tyV K T x H1 ∧ r x [] H1 Q) : tBM0 K T r te σ H Q := q
theorem e_sl {r : V → Option Int → Option Int → Hp → VK → Prop} {tl th : TO} (q : te σ H fun x H1 => tl σ H1 fun l H2 => th σ H2 fun u H3 => r x l u H3 Q) : tSl r te tl th σ H Q := q
theorem o_none {QO : Option Int → Hp → Prop} (q : QO none H) : tNoPart σ H QO := q
theorem o_some {QO : Option Int → Hp → Prop} (q : te σ H fun x H1 => ∃ i, x = .int i ∧ QO (some i) H1) : tPart te σ H QO := q
theorem f_for {wi : TI} {tb : TS} (q : wi σ H fun J H1 => ∃ W : Nat → Nat → St → Hp → Prop, (∃ m, W 0 m σ H1) ∧ ∀ i m σ H, W i m σ H →
  (J.stop i H ∧ D.nx σ H) ∨ (J.go i H ∧ ∃ N : St → Hp → Prop, (∀ σ' H', N σ' H' → ∃ m', m' < m ∧ W (i + 1) m' σ' H') ∧ ∀ x H', J.yld i H x H' → g x σ H' fun σ2 H2 => tb { D with nx := N, ct := N, bk := D.nx } σ2 H2)) : tFor wi g tb D σ H := q
theorem ex_bl {b : Bool} {P : Bool → Prop} (q : P b) : ∃ k, V.bl b = .bl k ∧ P k := ⟨b, rfl, q⟩
theorem ex_int {i : Int} {P : Int → Prop} (q : P i) : ∃ k, V.int i = .int k ∧ P k := ⟨i, rfl, q⟩
theorem i_t {A B : Prop} (h : A) : if true = true then A else B := iteT h
theorem i_f {A B : Prop} (h : B) : if false = true then A else B := iteF h
theorem i_nt {A B : Prop} (h : B) : if (!true) = true then A else B := iteF h
theorem i_nf {A B : Prop} (h : A) : if (!false) = true then A else B := iteT h
theorem i_d {c : Prop} [Decidable c] {A B : Prop} (h1 : c → A) (h2 : ¬ c → B) : if decide c = true then A else B := by
  by_cases h : c
  · rw [decide_eq_true h]
    exact iteT (h1 h)
  · rw [decide_eq_false h]
    exact iteF (h2 h)
theorem i_nd {c : Prop} [Decidable c] {A B : Prop} (h1 : ¬ c → A) (h2 : c → B) : if (!decide c) = true then A else B := by
  by_cases h : c
  · rw [decide_eq_true h]
    exact iteF (h2 h)
  · rw [decide_eq_false h]
    exact iteT (h1 h)
theorem i_dT {c : Prop} [Decidable c] {A B : Prop} (h : c) (q : A) : if decide c = true then A else B := by
  rw [decide_eq_true h]
  exact iteT q
theorem i_dF {c : Prop} [Decidable c] {A B : Prop} (h : ¬ c) (q : B) : if decide c = true then A else B := by
  rw [decide_eq_false h]
  exact iteF q
theorem i_b {b : Bool} {A B : Prop} (h1 : b = true → A) (h2 : b = false → B) : if b = true then A else B := by
  cases b with
  | true => exact iteT (h1 rfl)
  | false => exact iteF (h2 rfl)
/-! what a for and a comprehension walk -/
section
variable {ws : List Nat} {tb : TS} {tl : TE}
theorem e_lcT (q : tl σ H fun x H1 => ∃ a, x = .ref a ∧ (∃ xs, SqT K H1 a xs) ∧ ∀ D, H1 D = none → ∃ W : Nat → Nat → Hp → Prop, (∃ m, W 0 m (upd H1 D (.lst []))) ∧ ∀ i m H, W i m H →
  ((Itt K a).stop i H ∧ Q (.ref D) H) ∨ ((Itt K a).go i H ∧ ∃ Nx : Hp → Prop, (∀ H', Nx H' → ∃ m', m' < m ∧ W (i + 1) m' H') ∧ ∀ x H', (Itt K a).yld i H x H' → g x (wipe σ ws) H' fun σ2 H2 => wipe σ2 ws = wipe σ ws ∧ tt σ2 H2 fun b H3 =>
    if b = true then te σ2 H3 fun y H4 => ∃ acc, H4 D = some (.lst acc) ∧ acc.length < sizeLine ∧ Nx (upd H4 D (.lst (acc ++ [y]))) else Nx H3)) : tLc (iSeq K tl) g tt te ws σ H Q := .inr q
theorem f_forT (q : tl σ H fun x H1 => ∃ a, x = .ref a ∧ (∃ xs, SqT K H1 a xs) ∧ ∃ W : Nat → Nat → St → Hp → Prop, (∃ m, W 0 m σ H1) ∧ ∀ i m σ H, W i m σ H →
  ((Itt K a).stop i H ∧ D.nx σ H) ∨ ((Itt K a).go i H ∧ ∃ N : St → Hp → Prop, (∀ σ' H', N σ' H' → ∃ m', m' < m ∧ W (i + 1) m' σ' H') ∧ ∀ x H', (Itt K a).yld i H x H' → g x σ H' fun σ2 H2 => tb { D with nx := N, ct := N, bk := D.nx } σ2 H2)) : tFor (iSeq K tl) g tb D σ H := .inr q
theorem e_lcL (q : tl σ H fun x H1 => ∃ a, x = .ref a ∧ (∃ xs, SqL K H1 a xs) ∧ ∀ D, H1 D = none → ∃ W : Nat → Nat → Hp → Prop, (∃ m, W 0 m (upd H1 D (.lst []))) ∧ ∀ i m H, W i m H →
  ((Itl K a).stop i H ∧ Q (.ref D) H) ∨ ((Itl K a).go i H ∧ ∃ Nx : Hp → Prop, (∀ H', Nx H' → ∃ m', m' < m ∧ W (i + 1) m' H') ∧ ∀ x H', (Itl K a).yld i H x H' → g x (wipe σ ws) H' fun σ2 H2 => wipe σ2 ws = wipe σ ws ∧ tt σ2 H2 fun b H3 =>
    if b = true then te σ2 H3 fun y H4 => ∃ acc, H4 D = some (.lst acc) ∧ acc.length < sizeLine ∧ Nx (upd H4 D (.lst (acc ++ [y]))) else Nx H3)) : tLc (iSeq K tl) g tt te ws σ H Q := .inl q
theorem f_forL (q : tl σ H fun x H1 => ∃ a, x = .ref a ∧ (∃ xs, SqL K H1 a xs) ∧ ∃ W : Nat → Nat → St → Hp → Prop, (∃ m, W 0 m σ H1) ∧ ∀ i m σ H, W i m σ H →
  ((Itl K a).stop i H ∧ D.nx σ H) ∨ ((Itl K a).go i H ∧ ∃ N : St → Hp → Prop, (∀ σ' H', N σ' H' → ∃ m', m' < m ∧ W (i + 1) m' σ' H') ∧ ∀ x H', (Itl K a).yld i H x H' → g x σ H' fun σ2 H2 => tb { D with nx := N, ct := N, bk := D.nx } σ2 H2)) : tFor (iSeq K tl) g tb D σ H := .inl q
theorem e_lcR (q : tr σ H fun vs H1 => ∃ j : Int, vs = [.int j] ∧ -(2 ^ 62) ≤ j ∧ j < 2 ^ 62 ∧ ∀ D, H1 D = none → ∃ W : Nat → Nat → Hp → Prop, (∃ m, W 0 m (upd H1 D (.lst []))) ∧ ∀ i m H, W i m H →
  ((Itr 0 j.toNat).stop i H ∧ Q (.ref D) H) ∨ ((Itr 0 j.toNat).go i H ∧ ∃ Nx : Hp → Prop, (∀ H', Nx H' → ∃ m', m' < m ∧ W (i + 1) m' H') ∧ ∀ x H', (Itr 0 j.toNat).yld i H x H' → g x (wipe σ ws) H' fun σ2 H2 => wipe σ2 ws = wipe σ ws ∧ tt σ2 H2 fun b H3 =>
    if b = true then te σ2 H3 fun y H4 => ∃ acc, H4 D = some (.lst acc) ∧ acc.length < sizeLine ∧ Nx (upd H4 D (.lst (acc ++ [y]))) else Nx H3)) : tLc (iRng1 tr) g tt te ws σ H Q := q
theorem f_forR (q : tr σ H fun vs H1 => ∃ j : Int, vs = [.int j] ∧ -(2 ^ 62) ≤ j ∧ j < 2 ^ 62 ∧ ∃ W : Nat → Nat → St → Hp → Prop, (∃ m, W 0 m σ H1) ∧ ∀ i m σ H, W i m σ H →
  ((Itr 0 j.toNat).stop i H ∧ D.nx σ H) ∨ ((Itr 0 j.toNat).go i H ∧ ∃ N : St → Hp → Prop, (∀ σ' H', N σ' H' → ∃ m', m' < m ∧ W (i + 1) m' σ' H') ∧ ∀ x H', (Itr 0 j.toNat).yld i H x H' → g x σ H' fun σ2 H2 => tb { D with nx := N, ct := N, bk := D.nx } σ2 H2)) : tFor (iRng1 tr) g tb D σ H := q
end
theorem g_pair {p : Addr} {x y : V} {i j : Nat} {σ' : St} {QS : St → Hp → Prop} (h : SqT K H p [x, y]) (e : (σ.set i (some x)).set j (some y) = σ') (q : QS σ' H) : gTup K 2 (gCons (gName i) (gCons (gName j) gNil)) (.ref p) σ H QS := by
  refine ⟨p, [x, y], rfl, h, rfl, x, [y], rfl, y, [], rfl, rfl, ?_⟩
  rw [e]
  exact q
/-! values -/
theorem add_i {i j : Int} (q : Q (.int (i + j)) H) : rAddU K (.int i) (.int j) H Q := .inl ⟨i, j, rfl, rfl, q⟩
theorem r_i0 {g : Int → Int → V} {i j : Int} (q : Q (g i j) H) : rI0 g (.int i) (.int j) H Q := ⟨i, j, rfl, rfl, q⟩
theorem r_ic {C : Int → Int → Prop} {g : Int → Int → V} {i j : Int} (c : C i j) (q : Q (g i j) H) : rI C g (.int i) (.int j) H Q := ⟨i, j, rfl, rfl, c, q⟩
theorem mul_i {i j : Int} (c : CMul i j) (q : Q (.int (i * j)) H) : rMulU (.int i) (.int j) H Q := .inl ⟨i, j, rfl, rfl, c, q⟩
theorem mod_c {i j : Int} (h : j ≠ 0) (q : Q (.int (i.fmod j)) H) : rI (fun _ j => j ≠ 0) (fun i j => .int (i.fmod j)) (.int i) (.int j) H Q := ⟨i, j, rfl, rfl, h, q⟩
theorem fdv_c {i j : Int} (h : CDivN i j) (q : Q (.int (i.fdiv j)) H) : rI CDivN (fun i j => .int (i.fdiv j)) (.int i) (.int j) H Q := ⟨i, j, rfl, rfl, h, q⟩
theorem cmul_l {i j : Int} (h0 : 0 ≤ i) (h1 : i < 2147483648) : CMul i j := .inl ⟨by omega, by omega⟩
theorem cmul_r {i j : Int} (h0 : 0 ≤ j) (h1 : j < 2147483648) : CMul i j := .inr ⟨by omega, by omega⟩
theorem g_sub {to ti : TE} {t : TSet} {v : V} {QS : St → Hp → Prop} (q : to σ H fun o H1 => ti σ H1 fun i H2 => t o i v H2 fun H3 => QS σ H3) : gSub to ti t v σ H QS := q
theorem set_l {p : Addr} {xs : List V} {k : Int} {v : V} {QH : Hp → Prop} (hp : H p = some (.lst xs)) (h0 : 0 ≤ k) (h1 : k < (xs.length : Int)) (q : QH (upd H p (.lst (xs.set k.toNat v)))) : rSetL (.ref p) (.int k) v H QH :=
  ⟨p, xs, k, k.toNat, rfl, rfl, hp, by
    unfold ixN
    rw [if_pos h0, if_pos h1], q⟩
theorem eq_i {i j : Int} (q : Q (.bl (decide (i = j))) H) : rEqU K (.int i) (.int j) H Q := by
  refine .inl ⟨rfl, ?_⟩
  have e : decide (V.int i = V.int j) = decide (i = j) := by
    by_cases h : i = j
    · rw [decide_eq_true h, decide_eq_true (by rw [h])]
    · rw [decide_eq_false h, decide_eq_false fun z => h (V.int.inj z)]
  rw [e]
  exact q
theorem ne_i {i j : Int} (q : Q (.bl (!decide (i = j))) H) : rNeU K (.int i) (.int j) H Q := by
  refine .inl ⟨rfl, ?_⟩
  have e : decide (V.int i = V.int j) = decide (i = j) := by
    by_cases h : i = j
    · rw [decide_eq_true h, decide_eq_true (by rw [h])]
    · rw [decide_eq_false h, decide_eq_false fun z => h (V.int.inj z)]
  rw [e]
  exact q
theorem eq_b {a b : Bool} (q : Q (.bl (a == b)) H) : rEqU K (.bl a) (.bl b) H Q := by
  refine .inl ⟨rfl, ?_⟩
  have e : decide (V.bl a = V.bl b) = (a == b) := by cases a <;> cases b <;> rfl
  rw [e]
  exact q
theorem eq_tt (q : Q (.bl true) H) : rEqU K (.bl true) (.bl true) H Q := eq_b q
theorem eq_ff (q : Q (.bl true) H) : rEqU K (.bl false) (.bl false) H Q := eq_b q
theorem eq_tf (q : Q (.bl false) H) : rEqU K (.bl true) (.bl false) H Q := eq_b q
theorem eq_ft (q : Q (.bl false) H) : rEqU K (.bl false) (.bl true) H Q := eq_b q
theorem ne_tt (q : Q (.bl false) H) : rNeU K (.bl true) (.bl true) H Q := .inl ⟨rfl, q⟩
theorem ne_ff (q : Q (.bl false) H) : rNeU K (.bl false) (.bl false) H Q := .inl ⟨rfl, q⟩
theorem ne_tf (q : Q (.bl true) H) : rNeU K (.bl true) (.bl false) H Q := .inl ⟨rfl, q⟩
theorem ne_ft (q : Q (.bl true) H) : rNeU K (.bl false) (.bl true) H Q := .inl ⟨rfl, q⟩
theorem ne_b {a b : Bool} (q : Q (.bl (!(a == b))) H) : rNeU K (.bl a) (.bl b) H Q := by
  refine .inl ⟨rfl, ?_⟩
  have e : decide (V.bl a = V.bl b) = (a == b) := by cases a <;> cases b <;> rfl
  rw [e]
  exact q
theorem eq_s {x y : V} (h : scal x y = true) (q : Q (.bl (decide (x = y))) H) : rEqU K x y H Q := .inl ⟨h, q⟩
theorem ix_t {p : Addr} {xs : List V} {i : Int} {v : V} (h : SqT K H p xs) (ha : atI xs i = some v) (q : Q v H) : rIx K (.ref p) (.int i) H Q := .inr (.inl ⟨p, xs, i, v, rfl, rfl, h, ha, q⟩)
theorem ix_l {p : Addr} {xs : List V} {i : Int} {v : V} (h : SqL K H p xs) (ha : atI xs i = some v) (q : Q v H) : rIx K (.ref p) (.int i) H Q := .inl ⟨p, xs, i, v, rfl, rfl, h, ha, q⟩
theorem len_t {p : Addr} {xs : List V} (h : SqT K H p xs) (q : Q (.int xs.length) H) : rLenU K [.ref p] H Q := ⟨_, _, rfl, .inr ⟨_, h, rfl⟩, q⟩
theorem len_l {p : Addr} {xs : List V} (h : SqL K H p xs) (q : Q (.int xs.length) H) : rLenU K [.ref p] H Q := ⟨_, _, rfl, .inl ⟨_, h, rfl⟩, q⟩
theorem int_i {i : Int} (q : Q (.int i) H) : rIntU [.int i] H Q := .inl ⟨i, rfl, q⟩
theorem max_i {i j : Int} (q : Q (.int (if j > i then j else i)) H) : rMaxU [.int i, .int j] H Q := ⟨i, j, rfl, q⟩
theorem min_i {i j : Int} (q : Q (.int (if j < i then j else i)) H) : rMinU [.int i, .int j] H Q := ⟨i, j, rfl, q⟩
theorem tup_t {p : Addr} {xs : List V} (h : SqT K H p xs) (q : Q (.ref p) H) : rTupU K [.ref p] H Q := ⟨p, xs, rfl, .inr ⟨h, q⟩⟩
theorem tup_l {p : Addr} {xs : List V} (h : SqL K H p xs) (q : ∀ l H', H l = none → Same H H' → H' l = some (.tup xs) → (∀ b, b ≠ l → H' b = H b) → Q (.ref l) H') : rTupU K [.ref p] H Q :=
  ⟨p, xs, rfl, .inl ⟨h, fun l hl => q l _ hl (fun b o e => by
    rw [upd_ne (ne_of_none e hl)]
    exact e) upd_same fun _ hb => upd_ne hb⟩⟩
theorem list_s {p : Addr} {xs : List V} (h : SqL K H p xs ∨ SqT K H p xs) (q : ∀ l H', H l = none → Same H H' → H' l = some (.lst xs) → (∀ b, b ≠ l → H' b = H b) → Q (.ref l) H') : rListU K [.ref p] H Q :=
  ⟨p, xs, rfl, h, fun l hl => q l _ hl (fun b o e => by
    rw [upd_ne (ne_of_none e hl)]
    exact e) upd_same fun _ hb => upd_ne hb⟩
theorem app_l {p : Addr} {xs : List V} {y : V} (hp : H p = some (.lst xs)) (hl : xs.length < 1000) (q : Q .non (upd H p (.lst (xs ++ [y])))) : rAppend (.ref p) [y] H Q :=
  ⟨p, xs, y, rfl, rfl, hp, small1000 (Nat.le_of_lt hl), q⟩
theorem isi {x : V} {a b : String} {r : Bool} (h : TyX K H x (.type a)) (k : kitB a b = some r) (q : Q (.bl r) H) : rIsi K [x, .ty b] H Q :=
  ⟨x, .ty b, _, _, r, rfl, .ty b, h, kit_ty k, q⟩
theorem isi2 {x : V} {tp : Addr} {a b c : String} {r1 r2 : Bool} (hT : H tp = some (.tup [.ty b, .ty c])) (h : TyX K H x (.type a)) (k1 : kitB a b = some r1) (k2 : kitB a c = some r2) (q : Q (.bl (r1 || r2)) H) : rIsiT K [x, .ref tp] H Q :=
  ⟨x, tp, _, _, [.type b, .type c], r1 || r2, rfl, hT, .cons (.ty b) (.cons (.ty c) .nil), h,
    kitAny_cons (kit_ty k1) (fun e => by
      subst e
      exact kitAny_cons (kit_ty k2) (fun e => by
        subst e
        exact kitAny_nil) (fun e => by
        subst e
        rfl)) (fun e => by
      subst e
      rfl), q⟩
end

/-! ### heaps -/
theorem sz1000 {n : Nat} (h : n ≤ 1000) : n ≤ sizeLine := Nat.le_trans h (by decide)
/-- all but some addresses stands as it stood -/
def But (S : List Addr) (H H' : Hp) : Prop := ∀ b o, H b = some o → b ∉ S → H' b = some o
/-- all but lists stands as it stood -/
def NL (H H' : Hp) : Prop := ∀ b o, H b = some o → (∀ xs, o ≠ .lst xs) → H' b = some o
section
variable {K : PySem.W.Frag} {H H1 H2 H' : Hp} {a p : Addr} {xs : List V} {o : HO} {S : List Addr}
theorem same_upd (h : H p = none) : Same H (upd H p o) := fun b x e => by
  rw [upd_ne (ne_of_none e h)]
  exact e
theorem _root_.L2.Same.t (e : Same H H') (h : SqT K H a xs) : SqT K H' a xs := by
  rcases h with (h | ⟨o, h⟩) | h
  · exact .inl (.inl (e _ _ h))
  · exact .inl (.inr ⟨o, e _ _ h⟩)
  · exact .inr h
theorem _root_.L2.Same.nl (e : Same H H') : NL H H' := fun b o h _ => e b o h
theorem NL.refl (H : Hp) : NL H H := fun _ _ h _ => h
theorem NL.trans (e : NL H H1) (e2 : NL H1 H2) : NL H H2 := fun b o h n => e2 b o (e b o h n) n
theorem NL.t (e : NL H H') (h : SqT K H a xs) : SqT K H' a xs := by
  rcases h with (h | ⟨o, h⟩) | h
  · exact .inl (.inl (e _ _ h fun _ z => nomatch z))
  · exact .inl (.inr ⟨o, e _ _ h fun _ z => nomatch z⟩)
  · exact .inr h
theorem NL.ins {C dx : Addr} {fs : List (Str × V)} (e : NL H H') (h : H a = some (.ins C dx fs)) : H' a = some (.ins C dx fs) := e _ _ h fun _ z => nomatch z
theorem But.nl (e : But S H H') (h : ∀ b ∈ S, ∃ xs, H b = some (.lst xs)) : NL H H' := fun b o q n => e b o q fun m => by
  obtain ⟨xs, z⟩ := h b m
  rw [z] at q
  exact n xs (Option.some.inj q).symm
theorem but_upd : But [p] H (upd H p o) := fun b x e n => by
  rw [upd_ne (fun z => n (by rw [z]; exact List.mem_cons_self))]
  exact e
theorem _root_.L2.Same.but (e : Same H H') : But S H H' := fun b o h _ => e b o h
theorem But.trans (e : But S H H1) (e2 : But S H1 H2) : But S H H2 := fun b o h n => e2 b o (e b o h n) n
theorem But.mono {S' : List Addr} (e : But S H H') (h : ∀ b ∈ S, b ∈ S') : But S' H H' := fun b o q n => e b o q fun m => n (h b m)
/-- what S did not know may be left out -/
theorem But.same (e : But S H H') (h : ∀ b ∈ S, H b = none) : Same H H' := fun b o q => e b o q fun m => by
  rw [h b m] at q
  cases q
theorem sqT (h : H a = some (.tup xs)) : SqT K H a xs := .inl (.inl h)
theorem sqL (h : H a = some (.lst xs)) : SqL K H a xs := .inl (.inl h)
theorem upd_lst_nl {ys : List V} (h : H p = some (.lst xs)) : NL H (upd H p (.lst ys)) := fun b o q n => by
  by_cases e : b = p
  · subst e
    rw [h] at q
    exact absurd (Option.some.inj q).symm (n xs)
  · rw [upd_ne e]
    exact q
theorem new_same {o : HO} (h : H p = none) (e : H' = upd H p o) : Same H H' ∧ H' p = some o := by
  subst e
  exact ⟨same_upd h, upd_same⟩
theorem al_t {Q : VK} (hl : xs.length ≤ sizeLine) (q : ∀ p H', H p = none → Same H H' → H' p = some (.tup xs) → (∀ b, b ≠ p → H' b = H b) → Q (.ref p) H') : mkT Q xs H :=
  ⟨hl, fun p hp => q p _ hp (same_upd hp) upd_same fun _ hb => upd_ne hb⟩
theorem al_l {Q : VK} (hl : xs.length ≤ sizeLine) (q : ∀ p H', H p = none → Same H H' → H' p = some (.lst xs) → (∀ b, b ≠ p → H' b = H b) → Q (.ref p) H') : mkL Q xs H :=
  ⟨hl, fun p hp => q p _ hp (same_upd hp) upd_same fun _ hb => upd_ne hb⟩
end
section
variable {K : PySem.W.Frag} {H : Hp} {a b : Addr} {xs ys : List V} {Q : VK}
theorem cut_whole {lo hi : Option Int} (h : HT.sIx xs.length 0 lo = 0 ∧ HT.sIx xs.length xs.length hi = xs.length) : cutV xs lo hi = xs := by
  unfold cutV
  rw [h.1, h.2, List.drop_zero, Nat.sub_zero, List.take_length]
/-- a slice of a tuple -/
theorem sl_t {lo hi : Option Int} (h : SqT K H a xs) (q : ∀ p H', Same H H' → SqT K H' p (cutV xs lo hi) → Q (.ref p) H') : rSlU K (.ref a) lo hi H Q := by
  refine .inr ⟨a, xs, rfl, h, fun w => ?_, fun _ p hp => ?_⟩
  · refine q a H (Same.refl H) ?_
    rw [cut_whole w]
    exact h
  · exact q p _ (same_upd hp) (sqT upd_same)
theorem sl_l {lo hi : Option Int} (h : SqL K H a xs) (q : ∀ p H', H p = none → Same H H' → H' p = some (.lst (cutV xs lo hi)) → Q (.ref p) H') : rSlU K (.ref a) lo hi H Q :=
  .inl ⟨a, xs, rfl, h, fun p hp => q p _ hp (same_upd hp) upd_same⟩
/-- t + u -/
theorem add_t (h : SqT K H a xs) (h2 : SqT K H b ys) (hl : xs.length + ys.length ≤ 1000) (q : ∀ p H', Same H H' → SqT K H' p (xs ++ ys) → Q (.ref p) H') : rAddU K (.ref a) (.ref b) H Q := by
  refine .inr (.inr (.inl ⟨a, b, xs, ys, rfl, rfl, h, h2, sz1000 hl, fun e => ?_, fun _ e => ?_, fun _ _ p hp => ?_⟩))
  · subst e
    exact q b H (Same.refl H) h2
  · subst e
    refine q a H (Same.refl H) ?_
    rw [List.append_nil]
    exact h
  · exact q p _ (same_upd hp) (sqT upd_same)
theorem add_l (h : H a = some (.lst xs)) (h2 : H b = some (.lst ys)) (hl : xs.length + ys.length ≤ 1000) (q : ∀ p H', H p = none → Same H H' → H' p = some (.lst (xs ++ ys)) → Q (.ref p) H') : rAddU K (.ref a) (.ref b) H Q :=
  .inr (.inl ⟨a, b, xs, ys, rfl, rfl, h, h2, sz1000 hl, fun p hp => q p _ hp (same_upd hp) upd_same⟩)
end
/-- the end of an enumerate over a tuple -/
theorem pyNext_enum_endT {prog : Program} {w : World} {A : Around} {E : Value → Shared → Prop} {s : Shared} {e it l : Addr} {i : Nat} {i' : Int} {items : Array Value} {old : Value} {Q : Option Value → Shared → Prop} (hh : A.in1.handled = none)
    (he : IsEnum s.heap e it i' old) (hit : s.heap.IsTupleIter it l i) (hl : s.heap.IsTuple l items) (hx : items[i]? = none)
    (hQ : ∀ h', Heap.ExtBut it s.heap h' → Q none { s with heap := h' }) : wpAny (model prog w) A (pyNext (.ref e)) Q E s := by
  have hT : s.TypeIs (.ref e) "enumerate" := ⟨_, he, rfl⟩
  unfold pyNext
  refine wpAny_bind (wpAny_attempt (wpAny_callSpecial?_slot (name := Str.ofString "__next__") hT F.slot_enumerate_next (wpAny_call_entry F.slot_enumerate_next hT F.entry_enumerate_next ?_ (F.args_enumerate_next_1 _))))
  show wpAny _ _ (field (.ref e) 2 >>= fun _ => _) _ _ _
  refine wpAny_bind (wpAny_field he rfl (x := .ref it) rfl ?_)
  refine wpAny_bind (wpAny_nextOf_tuple_end hh hit hl hx fun h' x he' hx' => ?_)
  obtain ⟨o, ho, hc⟩ := hx'
  refine wpAny_bind (wpAny_isInstance (T := "StopIteration") (b := true) ⟨o, ho, hc⟩ isSubtype_stop ?_)
  exact wpAny_pure (hQ _ he')
set_option maxHeartbeats 8000000 in
theorem meets_enum1 {v : Value} {o : Obj} {Hd : Heap → Prop} (B : Begins v o Hd) :
    Meets (Builtin.«enumerate.__new__» ⟨[.type "enumerate", v], []⟩) (fun _ R s => Hd s.heap ∧
      R (.ok (.ret (.ref (s.heap.push o).objs.size))) { s with heap := (s.heap.push o).push { cls := .type "enumerate", data := .fields #[.none, .bool false, .ref s.heap.objs.size, rawInt 0, .none, .none] } }) :=
  .of_wp fun prog w A R s h => by
    obtain ⟨hp, g, d, tk, os⟩ := s
    obtain ⟨h1, h⟩ := h
    have hsub := sub_enumerate
    have q1 : ∀ {A' : Around} {E : Value → Shared → Prop} {Q : Value → Shared → Prop}, Q (.ref hp.objs.size) ⟨hp.push o, g, d, tk, os⟩ → wpAny (model prog w) A' (pyIter v) Q E ⟨hp, g, d, tk, os⟩ := by
      intro A' E Q q
      exact B.iter prog w A' E ⟨hp, g, d, tk, os⟩ Q h1 q
    wp_walk using q1
    refine wpAny_stack_any fun st => wpAny_pure ?_
    split
    · rename_i c _ _ _ _ _
      cases (c == Value.type "enumerate") <;> (wp_walk using q1) <;> exact ⟨_, rfl, h⟩
    · wp_walk using q1
      exact ⟨_, rfl, h⟩
theorem enum_made {prog : Program} {w : World} {A : Around} {E : Value → Shared → Prop} {s : Shared} {v : Value} {o : Obj} {Hd : Heap → Prop} {Q : Value → Shared → Prop} (B : Begins v o Hd) (h1 : Hd s.heap)
    (h : ∀ h', IsEnum h' (s.heap.objs.size + 1) s.heap.objs.size 0 .none → h'.get? s.heap.objs.size = some o → h'.objs.size = s.heap.objs.size + 2 →
      (∀ b o, s.heap.get? b = some o → h'.get? b = some o) → Q (.ref (s.heap.objs.size + 1)) { s with heap := h' }) :
    wpAny (model prog w) A (call (.type "enumerate") [v]) Q E s := by
  refine callType_new F.called_enumerate (by decide) (F.typeCall_enumerate_1 _) (F.newCall_enumerate_1 _) (fun obj => F.args_object_init_2 obj _) F.entry_enumerate_new (meets_enum1 B) ⟨h1, ?_⟩
  have hz : (s.heap.push o).objs.size = s.heap.objs.size + 1 := Heap.size_push ..
  have he : IsEnum ((s.heap.push o).push { cls := .type "enumerate", data := .fields #[.none, .bool false, .ref s.heap.objs.size, rawInt 0, .none, .none] }) (s.heap.push o).objs.size s.heap.objs.size 0 .none := Heap.get?_push_size _ rfl
  rw [hz] at he
  rw [hz]
  refine ⟨⟨_, he, rfl⟩, h _ he (Heap.get?_push_of_some _ (Heap.get?_push_size _ B.free)) ?_ ?_⟩
  · rw [Heap.size_push, hz]
  · intro b ob x
    exact Heap.get?_push_of_some _ (Heap.get?_push_of_some _ x)
/-! ### for i, x in enumerate(t), t a tuple -/
/-- the tuple at a, each item in a new pair with its number -/
def ItEt (K : PySem.W.Frag) (a : Addr) : It where
  go i H := ∃ (xs : List V) (x : V), SqT K H a xs ∧ xs[i]? = some x
  yld i H v H' := ∃ T x, v = .ref T ∧ H T = none ∧ H' = upd H T (.tup [.int (i : Nat), x]) ∧ ∀ xs, SqT K H a xs → xs[i]? = some x
  stop i H := ∃ xs : List V, SqT K H a xs ∧ xs.length ≤ i
theorem turn_enumT {P : Program} {w : World} {K : PySem.W.Frag} {elts : List Expr} {kk : Nat} {tpos : Pos} (a e it : Addr) (hae : a ≠ e) (hai : a ≠ it) :
    Turn P w K (.Tuple elts kk tpos) (ItEt K a) [e, it] e (fun i h => (∃ old, IsEnum h e it ((i : Nat) : Int) old) ∧ h.IsTupleIter it a i ∧ e ≠ it) where
  mem := List.mem_cons_self
  obj := by
    rintro i h ⟨⟨old, he⟩, ⟨o, ho, hc, hd⟩, _⟩ b hb
    rcases List.mem_cons.mp hb with rfl | hb
    · exact ⟨_, he, by intro v q; cases q⟩
    · rw [List.mem_singleton.mp hb]
      exact ⟨o, ho, by intro v q; rw [hd] at q; cases q⟩
  keep := by
    rintro i h h' ⟨⟨old, he⟩, hi, hne⟩ k
    exact ⟨⟨old, k e List.mem_cons_self _ he⟩, hi.at fun o q => k it (List.mem_cons_of_mem _ List.mem_cons_self) o q, hne⟩
  item := by
    intro X hP hw hK hc i pins s σ H E I hf st hg
    subst hP
    subst hw
    subst hK
    obtain ⟨⟨old, he⟩, hit, hne⟩ := st
    obtain ⟨xs, x, hq, hx⟩ := hg
    obtain ⟨its, rv, p, hz⟩ := I.tuple hq
    obtain ⟨u, hu, ru⟩ := rv.get hx
    have hel : e < s.heap.objs.size := Heap.lt_size he
    have hil : it < s.heap.objs.size := by
      obtain ⟨_, q, _⟩ := id hit
      exact Heap.lt_size q
    have hil2 : i < its.toArray.size := by
      rw [List.size_toArray]
      exact (List.getElem?_eq_some_iff.mp hu).1
    have hh : (X.A.in1).handled = none := I.ok.hd hc
    refine wpAny_pyNext_enum_itemD (Draws.tuple hh it a hai its.toArray) he ⟨hit, p⟩ hil2 hne (by
      intro m
      rcases List.mem_cons.mp m with z | z
      · exact hne z
      · exact hae (List.mem_singleton.mp z).symm) fun u' h' tk hPx ho hst hT hsz hk => ?_
    have hux : u' = u := by
      have e1 : its.toArray[i]? = some u := by rw [List.getElem?_toArray]; exact hu
      rw [e1] at hPx
      exact (Option.some.inj hPx).symm
    subst hux
    refine ⟨_, rfl, wpAny_letOwnedTupleGo_enum (s := { s with heap := h', toks := tk + 1 }) ho fun h'' he' sb => ?_⟩
    have hT2 : h''.get? s.heap.objs.size = some { cls := .type "tuple", data := .seq #[.int i tk, u'] } := (sb.2 _ (Nat.ne_of_gt hel)).trans hT
    have new : ObjOk X.prog X.w (upd H s.heap.objs.size (.tup [.int (i : Nat), x])) h'' s.heap.objs.size (.tup [.int (i : Nat), x]) :=
      ⟨(by decide : 2 ≤ sizeLine), [.int i tk, u'], .cons ⟨_, rfl⟩ (.cons ru .nil), ⟨_, hT2, rfl, _, rfl⟩⟩
    have I1 : Inv X pins σ (upd H s.heap.objs.size (.tup [.int (i : Nat), x])) { s with heap := h'', toks := tk + 1 } := by
      refine I.turnedNew (ch := [e, it]) (fun b ob hb q => ?_) hf (Nat.le_refl _) new
      refine (sb.2 b fun z => hb (by rw [z]; exact List.mem_cons_self)).trans ?_
      exact hk b ob (fun z => hb (by rw [z]; exact List.mem_cons_self)) (fun z => hb (by rw [z]; exact List.mem_cons_of_mem _ List.mem_cons_self)) q
    refine ⟨.ref s.heap.objs.size, _, I1, rfl, ⟨_, x, rfl, I.hok.fresh (Nat.le_refl _), rfl, fun ys hy => ?_⟩, ⟨⟨u', ?_⟩, ?_, hne⟩, fun b hb => ?_⟩
    · rw [I.tuple_inj hy hq]
      exact hx
    · have e1 : ((i + 1 : Nat) : Int) = (i : Int) + 1 := by omega
      rw [e1]
      exact he'
    · exact hst.1.at fun o q => (sb.2 it (Ne.symm hne)).trans q
    · have hb' : b < s.heap.objs.size := by
        rcases List.mem_cons.mp hb with z | z
        · rw [z]; exact hel
        · rw [List.mem_singleton.mp z]; exact hil
      rw [upd_ne (Nat.ne_of_lt hb')]
      exact (hf b hb).1
  done := by
    intro X hP hw hK hc i pins s σ H E I hf st hg
    subst hP
    subst hw
    subst hK
    obtain ⟨⟨old, he⟩, hit, hne⟩ := st
    obtain ⟨xs, hq, hx⟩ := hg
    obtain ⟨its, rv, p, hz⟩ := I.tuple hq
    have hl := rv.length
    obtain ⟨f0, f1, f2, f3, f4, f5⟩ := hf it (List.mem_cons_of_mem _ List.mem_cons_self)
    have hh : (X.A.in1).handled = none := I.ok.hd hc
    refine pyNext_enum_endT hh he hit p ?_ fun h' eb => ⟨rfl, ?_⟩
    · rw [List.getElem?_toArray, List.getElem?_eq_none (by omega)]
    · exact I.turned (t' := s.toks) (fun b o hb q => eb b o hb q) f0 f1 f3 f4 f5
  self := by
    rintro A i s Q E ⟨⟨_, he⟩, _⟩ h
    exact wpAny_pyIter_enum he h
def iEnumT (K : PySem.W.Frag) (ta : TA) : TI := fun σ H R => ta σ H fun vs H1 => ∃ a xs, vs = [.ref a] ∧ SqT K H1 a xs ∧ R (ItEt K a) H1
theorem pi_enumT {X : Cx} {e : Expr} {ta : TA} {p pos tpos : Pos} {elts : List Expr} {kk : Nat} (hg : Gl X "enumerate") (hm : X.mg "enumerate" = none) (ha : PA X [e] ta) (hs : starEach [e] X.env = [(false, eval e X.env)] := by rfl) :
    PI X (.Tuple elts kk tpos) (.Call (.Name "enumerate" p) [e] [] pos) (iEnumT X.K ta) := by
  refine ⟨fun pins s σ H R I h => ?_⟩
  refine Call_ (ld_blt I hg hm boot_enumerate (PyProof.Rows.callWith_type1 (thn (ha.run pos pins s σ H _ I h) fun us s1 hh => ?_) hs rfl))
  obtain ⟨vs, H1, I1, r1, a, xs, ex, hq, q⟩ := hh
  subst ex
  cases r1 with
  | cons r rr =>
    cases rr
    cases r
    obtain ⟨its, rv, p', hz⟩ := I1.tuple hq
    have hal : a < s1.heap.objs.size := by
      obtain ⟨_, q, _⟩ := id p'
      exact Heap.lt_size q
    refine enum_made (begins_tuple a its.toArray) p' fun h' he hit hsz hk => wpAny_pyIter_enum he ?_
    have I2 : Inv X pins σ H1 { s1 with heap := h' } := I1.kept (t' := s1.toks) hk
    refine ⟨s1.heap.objs.size + 1, [s1.heap.objs.size + 1, s1.heap.objs.size], _, _, H1, rfl, I2, turn_enumT a (s1.heap.objs.size + 1) s1.heap.objs.size (Nat.ne_of_lt (Nat.lt_succ_of_lt hal)) (Nat.ne_of_lt hal), ⟨⟨.none, he⟩, ⟨_, hit, rfl, rfl⟩, Nat.succ_ne_self _⟩, fun b hb => ?_, q⟩
    have hle : s1.heap.objs.size ≤ b := by
      rcases List.mem_cons.mp hb with z | z
      · rw [z]; exact Nat.le_succ _
      · rw [List.mem_singleton.mp z]; exact Nat.le_refl _
    exact I1.fpOk hle (I1.hok.fresh hle)
theorem walk_enumT {K : PySem.W.Frag} {a : Addr} {xs : List V} : Walk (ItEt K a) xs.length (fun H => SqT K H a xs) (YPair (fun i => some (.int (i : Nat))) (fun i => xs[i]?)) := by
  refine ⟨fun i H hi h => ⟨xs, xs[i], h, List.getElem?_eq_getElem hi⟩, fun H h => ⟨xs, h, Nat.le_refl _⟩, fun i H x H' hi h y => ?_⟩
  obtain ⟨T, x, e1, e2, e3, e4⟩ := y
  exact ⟨T, .int (i : Nat), x, e1, e2, e3, rfl, e4 xs h⟩
theorem f_forE {K : PySem.W.Frag} {tr : TA} {g : TG} {tb : TS} {D : Ends} {σ : St} {H : Hp} (q : tr σ H fun vs H1 => ∃ a xs, vs = [.ref a] ∧ SqT K H1 a xs ∧ ∃ W : Nat → Nat → St → Hp → Prop, (∃ m, W 0 m σ H1) ∧ ∀ i m σ H, W i m σ H →
  ((ItEt K a).stop i H ∧ D.nx σ H) ∨ ((ItEt K a).go i H ∧ ∃ N : St → Hp → Prop, (∀ σ' H', N σ' H' → ∃ m', m' < m ∧ W (i + 1) m' σ' H') ∧ ∀ x H', (ItEt K a).yld i H x H' → g x σ H' fun σ2 H2 => tb { D with nx := N, ct := N, bk := D.nx } σ2 H2)) : tFor (iEnumT K tr) g tb D σ H := q
/-- zip of two tuples in a comprehension -/
theorem e_lcZ {K : PySem.W.Frag} {tr : TA} {g : TG} {tt : TT} {te : TE} {ws : List Nat} {σ : St} {H : Hp} {Q : VK} (q : tr σ H fun vs H1 => ∃ a b xs ys, vs = [.ref a, .ref b] ∧ ((SqL K H1 a xs ∧ SqL K H1 b ys ∧ (fun (J : It) (H1 : Hp) => ∀ D, H1 D = none → ∃ W : Nat → Nat → Hp → Prop, (∃ m, W 0 m (upd H1 D (.lst []))) ∧ ∀ i m H, W i m H →
  (J.stop i H ∧ Q (.ref D) H) ∨ (J.go i H ∧ ∃ Nx : Hp → Prop, (∀ H', Nx H' → ∃ m', m' < m ∧ W (i + 1) m' H') ∧ ∀ x H', J.yld i H x H' → g x (wipe σ ws) H' fun σ2 H2 => wipe σ2 ws = wipe σ ws ∧ tt σ2 H2 fun b H3 =>
    if b = true then te σ2 H3 fun y H4 => ∃ acc, H4 D = some (.lst acc) ∧ acc.length < sizeLine ∧ Nx (upd H4 D (.lst (acc ++ [y]))) else Nx H3)) (Itz K a b) H1) ∨ (SqT K H1 a xs ∧ SqT K H1 b ys ∧ ∀ D, H1 D = none → ∃ W : Nat → Nat → Hp → Prop, (∃ m, W 0 m (upd H1 D (.lst []))) ∧ ∀ i m H, W i m H →
  ((ItzT K a b).stop i H ∧ Q (.ref D) H) ∨ ((ItzT K a b).go i H ∧ ∃ Nx : Hp → Prop, (∀ H', Nx H' → ∃ m', m' < m ∧ W (i + 1) m' H') ∧ ∀ x H', (ItzT K a b).yld i H x H' → g x (wipe σ ws) H' fun σ2 H2 => wipe σ2 ws = wipe σ ws ∧ tt σ2 H2 fun b H3 =>
    if b = true then te σ2 H3 fun y H4 => ∃ acc, H4 D = some (.lst acc) ∧ acc.length < sizeLine ∧ Nx (upd H4 D (.lst (acc ++ [y]))) else Nx H3)))) : tLc (iZipA K tr) g tt te ws σ H Q := q
theorem walk_zipT {K : PySem.W.Frag} {a b : Addr} {xs ys : List V} {n : Nat} (hn : n = min xs.length ys.length) : Walk (ItzT K a b) n (fun H => SqT K H a xs ∧ SqT K H b ys) (YPair (fun i => xs[i]?) (fun i => ys[i]?)) := by
  refine ⟨fun i H hi h => ⟨xs, ys, xs[i]'(by omega), ys[i]'(by omega), h.1, h.2, List.getElem?_eq_getElem (by omega), List.getElem?_eq_getElem (by omega)⟩, fun H h => ⟨xs, ys, h.1, h.2, by omega⟩, fun i H x H' hi h y => ?_⟩
  obtain ⟨T, x, y, e1, e2, e3, e4, e5⟩ := y
  exact ⟨T, x, y, e1, e2, e3, e4 xs h.1, e5 ys h.2⟩
/-- a comprehension without a test whose elements keep what stands -/
theorem comp_w {J : It} {n : Nat} {G : Hp → Prop} {Y : Nat → Hp → V → Hp → Prop} (wk : Walk J n G Y) {g : TG} {te : TE} {vs : List Nat} {σ σw : St} {H : Hp} {QD : Addr → Hp → Prop} {ys : List V} (hw : wipe σ vs = σw) (hn : n ≤ 1000) (hy : ys.length = n) (hG : ∀ H', Same H H' → G H')
    (he : ∀ (i : Nat) (x y : V) (H2 H3 : Hp) (R : VK), i < n → ys[i]? = some y → Same H H2 → Y i H2 x H3 → (∀ H4, Same H2 H4 → R y H4) → g x σw H3 fun σ2 H4 => wipe σ2 vs = σw ∧ te σ2 H4 R)
    (q : ∀ D H', H D = none → Same H H' → H' D = some (.lst ys) → QD D H') :
    ∀ D, H D = none → ∃ W : Nat → Nat → Hp → Prop, (∃ m, W 0 m (upd H D (.lst []))) ∧ ∀ i m H, W i m H →
      (J.stop i H ∧ QD D H) ∨ (J.go i H ∧ ∃ Nx : Hp → Prop, (∀ H', Nx H' → ∃ m', m' < m ∧ W (i + 1) m' H') ∧ ∀ x H', J.yld i H x H' → g x (wipe σ vs) H' fun σ2 H2 => wipe σ2 vs = wipe σ vs ∧ tYes σ2 H2 fun b H3 =>
        if b = true then te σ2 H3 fun y H4 => ∃ acc, H4 D = some (.lst acc) ∧ acc.length < sizeLine ∧ Nx (upd H4 D (.lst (acc ++ [y]))) else Nx H3) := by
  intro D hD
  refine lc_it wk (fun i H' => Same H H' ∧ H' D = some (.lst (ys.take i))) ⟨same_upd hD, upd_same⟩ (fun i H' _ h => hG _ h.1) (fun i x H2 H3 hi h hyi => ?_) fun H' h => ?_
  · rw [hw]
    have hy' : ys[i]? = some ys[i] := List.getElem?_eq_getElem (by omega)
    obtain ⟨hs, hd⟩ := h
    refine he i x ys[i] H2 H3 _ hi hy' hs hyi fun H4 s4 => ?_
    refine ⟨ys.take i, s4 _ _ hd, ?_, ?_, ?_⟩
    · rw [List.length_take]
      exact Nat.lt_of_le_of_lt (Nat.min_le_left _ _) (small1000 (by omega))
    · intro b o hb
      rw [upd_ne (ne_of_none hb hD)]
      exact s4 _ _ (hs _ _ hb)
    · rw [upd_same, List.take_add_one, hy']
      rfl
  · rw [← hy, List.take_length] at h
    exact q D H' hD h.1 h.2
/-! ### an own exception's __init__ that begins with super().__init__(..) -/
section
open PySem.W (kxs_mw kxs_ValueError kxs_getMethod kxs_callWith ks_superIn)
/-- the built-in __init__ bound to the exception at e, called: its args are laid anew -/
theorem call_mw {prog : Program} {w : World} {A : Around} {E : Value → Shared → Prop} {h : Heap} {g : Array GenState} {d : Drawn} {t : Nat} {os : OsState} {nm q : Str} {C N : Addr} {bs bm : List Value} {hdct : Bool} {sn : List Str} {sub : List Value} {ab : Bool} {col : Option Bool} {dd : Option Addr}
    {k0 k1 k2 k3 k5 : Option Value} {u e t0 : Addr} {rest : List Value} {Q : Value → Shared → Prop} (hC : h.get? C = some (excClassObj nm q C N bs bm hdct sn sub ab col dd k0 k1 k2 k3 k5 "ValueError.__new__"))
    (he : h.get? e = some (PySem.HandSPX.excO C t0)) (hu : h.get? u = some (kxs_mw "ValueError.__init__" e)) (hrest : rest.length ≤ sizeLine)
    (hq : ∀ h' t1, (∀ b o, b ≠ e → h.get? b = some o → h'.get? b = some o) → h'.get? e = some (PySem.HandSPX.excO C t1) → Q .none ⟨h', g, d, t, os⟩) :
    wpAny (model prog w) A (call (.ref u) rest) Q E ⟨h, g, d, t, os⟩ := by
  refine wpAny_call (codeAny_of_tree ?_)
  show wpAny _ A.in1 (callAny (.ref u) ⟨rest, []⟩) _ _ _
  simp only [callAny]
  refine wpAny_bind (wpAny_load hu ?_)
  have hb1 : (Value.type "method-wrapper" == Value.type "method" || Value.type "method-wrapper" == Value.type "builtin_function_or_method" || Value.type "method-wrapper" == Value.type "method-wrapper") = true := by decide
  simp only [kxs_mw, hb1, if_true]
  refine PySem.W.KFB.if_so (by decide) ?_
  refine wpAny_bind (PySem.W.check_bound_init F.excBase_ValueError.toExcCallFacts hC he rfl ?_)
  refine wpAny_bind (wpAny_pure (wpAny_pure ?_))
  refine ⟨Code.quiet_builtin _ (by decide +kernel), codeAny_builtin F.excBase_ValueError.initEntry ?_⟩
  rw [Around.under_plainId F.excBase_ValueError.init.plain _]
  have hne : h.objs.size ≠ e := Nat.ne_of_gt (Heap.lt_size he)
  wp_walk
  refine hq _ h.objs.size (fun b o hb ho => ?_) ?_
  · rw [Heap.get?_update_other _ _ (Ne.symm hb)]
    exact Heap.get?_push_of_some _ ho
  · rw [Heap.get?_update_self _ (Heap.get?_push_of_some _ he) rfl]
    rfl
abbrev supBody (e : Expr) (rest : List Stmt) (p0 p1 p2 p3 p4 : Pos) : List Stmt := .Expr (.Call (.Attribute (.Call (.Name "super" p0) [] [] p1) "__init__" p2) [e] [] p3) p4 :: rest
/-- what the written part says of the class at D and its __init__'s closure and code -/
structure SupC (P : Program) (K : PySem.W.Frag) (mg : Str → Option Value) (D cc cda : Addr) : Prop where
  code : ∃ ccl cdd vs0 ccs file tf, K.lookup cda = some ⟨ccl, cdd, .fields vs0, ccs⟩ ∧ vs0[2]? = some (.str file tf) ∧ ((P.main.file : Str) == file) = true
  cell : ∃ cl cld csl, K.lookup cc = some ⟨cl, cld, .cell (some (.ref D)), csl⟩
  cls : ∃ cdD, PySem.W.clsIn K D = some cdD
  sub : PySem.W.mroIn K D (.ref D) = some true
  sup : mg "super" = none
  top : (P.main.scope.names.lookup ("super" : Str)).isSome = false
  lo : PySem.W.nsIn K PySem.cStatics "thirdparty.any" = some none
  al : ks_superIn K D D "__init__" = some (some (.builtin "ValueError.__init__"))
  ve : PySem.W.subIn K (.ref D) (.type "ValueError") = some true
  ox : OexC K D
theorem fn_sup {CX : CXT} {P : Program} {w : World} {K : PySem.W.Frag} {mg : Str → Option Value} {base : Heap} {k : Nat} {f cc cda D : Addr} {name qual : Str} {params : Arguments} {e : Expr} {rest : List Stmt} {scope : Scope} {dV kV doc pm ct oc : Value} {an od : Option Addr}
    {osl : Array (Option Value)} {ar : Arg} {N ps : List Str} {sp : Sp} {p0 p1 p2 p3 p4 : Pos}
    (lk : K.lookup f = some ⟨oc, od, .func (PySem.W.fnX name qual params (supBody e rest p0 p1 p2 p3 p4) scope [("__class__", cc)] dV kV doc pm an (.ref cda) ct), osl⟩)
    (hcd : PySem.W.codeIn K (.ref cda) qual = true) (S : NdefX.NScope N ps ["__class__"] scope) (hN0 : N[0]? = some ar.arg) (hka : scope.names.lookup ar.arg = some .local) (har : (params.posonlyargs ++ params.args).head? = some ar)
    (hks : scope.names.lookup ("super" : Str) = some .globalImplicit) (SC : SupC P K mg D cc cda)
    (len : ∀ vs H Q E, sp vs H Q E → vs.length = ps.length)
    (hbody : ∀ (A : Around) (outer : List Env) (s : Shared) (H : Hp) (vs : List V) (Q : VK) (E : XK), Room k (A.deeper (NdefX.envF ⟨name, qual, params, supBody e rest p0 p1 p2 p3 p4, scope, [("__class__", cc)], cda⟩ f s.heap.objs.size)) → sp vs H Q E →
      ∃ ta t, PA (NdefX.ncx CX P w K mg base N ⟨name, qual, params, supBody e rest p0 p1 p2 p3 p4, scope, [("__class__", cc)], cda⟩ f A outer s H E) [e] ta ∧
        PSs (NdefX.ncx CX P w K mg base N ⟨name, qual, params, supBody e rest p0 p1 p2 p3 p4, scope, [("__class__", cc)], cda⟩ f A outer s H E) rest t ∧ ∃ a, (NdefX.startF N vs [none])[0]? = some (some (.ref a)) ∧ H a = some (exo a D none) ∧
        ta (NdefX.startF N vs [none]) H fun us H1 => us.length ≤ 1000 ∧ H1 a = some (exo a D none) ∧ t { nx := fun _ H' => Q .non H', rt := Q } (NdefX.startF N vs [none]) H1)
    (he : ∀ env : Env, starEach [e] env = [(false, eval e env)] := by intro _; rfl)
    (hev : ∀ L, ∃ pl, eval (.Call (.Attribute (.Call (.Name "super" p0) [] [] p1) "__init__" p2) [e] [] p3) (NdefX.envF ⟨name, qual, params, supBody e rest p0 p1 p2 p3 p4, scope, [("__class__", cc)], cda⟩ f L) = (do
      let ov ← attributeBase (.Call (.Name "super" p0) [] [] p1) "__init__" (NdefX.envF ⟨name, qual, params, supBody e rest p0 p1 p2 p3 p4, scope, [("__class__", cc)], cda⟩ f L) (eval (.Call (.Name "super" p0) [] [] p1) (NdefX.envF ⟨name, qual, params, supBody e rest p0 p1 p2 p3 p4, scope, [("__class__", cc)], cda⟩ f L))
      standAt p2.atName
      let (fm, first) ← holding [ov] (getMethod ov "__init__" pl)
      callWith p3 fm first (backTo p3 (starEach [e] (NdefX.envF ⟨name, qual, params, supBody e rest p0 p1 p2 p3 p4, scope, [("__class__", cc)], cda⟩ f L))) []) := by intro L; exact ⟨_, rfl⟩)
    (hint : ∀ L, interactive (NdefX.envF ⟨name, qual, params, supBody e rest p0 p1 p2 p3 p4, scope, [("__class__", cc)], cda⟩ f L) = false := by intro L; rfl)
    (hsw : ∀ L, swapsWith (.Call (.Attribute (.Call (.Name "super" p0) [] [] p1) "__init__" p2) [e] [] p3) none p4.line (NdefX.envF ⟨name, qual, params, supBody e rest p0 p1 p2 p3 p4, scope, [("__class__", cc)], cda⟩ f L) = pure false := by intro L; rfl) :
    FnOk P w K mg base CX (k + 1) f (PySem.W.fnX name qual params (supBody e rest p0 p1 p2 p3 p4) scope [("__class__", cc)] dV kV doc pm an (.ref cda) ct) ps sp := by
  refine ⟨len, fun A outer s H args us vs Q E hr e0 hb r hsp => ?_⟩
  have hl := len _ _ _ _ hsp
  have KX : K.In s.heap := e0.mod.kin.keeps fun b o q => (e0.bs b o q).1
  have lim : s.heap.NoLimit := e0.mod.nolimit.keeps fun b o q => (e0.bs b o q).1
  obtain ⟨cl, cld, csl, hcell⟩ := SC.cell
  have hcb := e0.mod.kin _ _ hcell
  have CA : NdefX.CellsAt [(("__class__" : Str), cc)] ["__class__"] [none] s.heap H := by
    refine ⟨rfl, fun y c q => ?_, fun x y c q1 q2 => ?_, fun i y q => ?_⟩
    · have e1 : c = cc := by
        rw [List.lookup_cons] at q
        split at q
        · exact (Option.some.inj q).symm
        · cases q
      rw [e1]
      exact ⟨(e0.bs _ _ hcb).2, _, _, KX _ _ hcell, rfl⟩
    · have k1 : ∀ z, List.lookup z [(("__class__" : Str), cc)] = some c → z = "__class__" := by
        intro z qz
        rw [List.lookup_cons] at qz
        split at qz
        · rename_i hz
          exact eq_of_beq hz
        · cases qz
      rw [k1 x q1, k1 y q2]
    · match i with
      | 0 =>
        obtain rfl : ("__class__" : Str) = y := Option.some.inj q
        exact ⟨cc, rfl, fun v z => by cases z⟩
      | i + 1 => cases q
  refine codeAny_call_function hr.depth (KX _ _ lk) rfl S.co S.gen rfl (PySem.W.codeRec_of KX hcd) (hb _ _ _ _ ?_)
  refine wpAny_newFunctionEnv S.nocell (fun ⟨n, _⟩ hy => S.par n (List.of_mem_zip hy).1) (fun h₁ hns hsb => ⟨lim.fresh _ hsb, ?_⟩) S.kind
  have kp : ∀ b o, s.heap.get? b = some o → h₁.get? b = some o := fun b o q => hsb.extBut b o (Nat.ne_of_lt (Heap.lt_size q)) (Heap.get?_push_of_some _ q)
  obtain ⟨ta, t, hA, hR, a, ha0, hae, hrd⟩ := hbody A outer s H vs Q E (hr.deeper _) hsp
  have I := NdefX.inv_startN (CX := CX) (F := ⟨name, qual, params, supBody e rest p0 p1 p2 p3 p4, scope, [("__class__", cc)], cda⟩) (f := f) (E := E) (tk := s.toks + (ps.zip us).length) S hr.hd e0 hl r CA hns kp
  show codeAny _ _ (.func (supBody e rest p0 p1 p2 p3 p4) (NdefX.envF ⟨name, qual, params, supBody e rest p0 p1 p2 p3 p4, scope, [("__class__", cc)], cda⟩ f s.heap.objs.size)) _ _
  refine ks_codeAny_funcAt ?_
  obtain ⟨pl, hpl⟩ := hev s.heap.objs.size
  refine ks_wpAt_execs_cons (ks_wpAt_Expr_any (ks_wpAt_MethodCall (pl := pl) ?_ hpl) (hint _) (hsw _))
  -- super()
  obtain ⟨ccl, cdd, vs0, ccs, file, tf, hcode, hvs, hfile⟩ := SC.code
  obtain ⟨cdD, hD⟩ := SC.cls
  obtain ⟨mL, hnL, hloc⟩ := I.loc
  obtain ⟨u0, ru0, hu0⟩ := hloc 0 ar.arg (.ref a) hN0 ha0 (.inl hka)
  have hma : mL ar.arg = some (.ref a) := by
    rcases hu0 with ⟨_, q⟩ | ⟨q, _⟩
    · rw [q]
      exact congrArg some ru0
    · have q' : scope.names.lookup ar.arg = some .cell ∨ scope.names.lookup ar.arg = some .free := q
      rw [hka] at q'
      rcases q' with z | z <;> cases z
  have X1 : K.In h₁ := KX.keeps kp
  obtain ⟨oD, hD1, hD2⟩ : ∃ oD, h₁.get? D = some oD ∧ oD.data = .cls cdD := by
    unfold PySem.W.clsIn at hD
    split at hD
    · rename_i c d cd' sl ho
      cases hD
      exact ⟨_, X1 _ _ ho, rfl⟩
    · cases hD
  obtain ⟨t1, hoa⟩ := exo_at I.hok hae
  obtain ⟨mb, hmb1, hmb2⟩ := e0.mod.blt
  have hkf : scope.names.lookup ("__class__" : Str) = some .free := S.frk _ List.mem_cons_self
  refine ks_wpAt_super_base (env := NdefX.envF ⟨name, qual, params, supBody e rest p0 p1 p2 p3 p4, scope, [("__class__", cc)], cda⟩ f s.heap.objs.size) hks hkf (by decide +kernel) rfl (X1 _ _ lk) rfl har rfl (X1 _ _ hcode) rfl hvs hfile SC.top ?_
  refine PySem.W.ks_loadName_global S.kind hks (Calls.loadGlobal_builtin (I.mod.glob.keeps I.bk) SC.sup (hmb1.keeps I.bk) ((hmb2 _ (by decide)).trans (by decide +kernel : bootBuiltins "super" = some (.type "super"))) ⟨rfl, ?_⟩)
  refine wpAny_loadName_free S.kind hkf rfl ⟨_, X1 _ _ hcell, rfl⟩ ?_
  refine wpAny_loadName_local S.kind hka hnL hma ?_
  refine ks_wpAny_isType_cls hD1 hD2 ⟨rfl, ?_⟩
  refine ks_wpAny_call_super hD1 hD2 hoa rfl (fun c q => by cases q) (PySem.W.looks_mroIn X1 SC.sub) (fun h2 e2 k2 => ?_)
  have hne : a ≠ D := fun z => by
    rw [z, hD1] at hoa
    rw [Option.some.inj hoa] at hD2
    cases hD2
  have I2 := I.kept (h' := h2) (t' := s.toks + (ps.zip us).length) k2
  have X2 : K.In h2 := I2.kIn
  have ha2 := k2 _ _ hoa
  have IA : PySem.W.InstAt h2 a _ D none := ⟨ha2, rfl, rfl, trivial⟩
  have hI : PySem.W.Looks (model P w) h2 (isInstance (.ref a) (.type "ValueError")) true := IA.type.andThen (PySem.W.looks_subIn X2 SC.ve)
  have hal := SC.al
  unfold PySem.W.ks_superIn at hal
  rw [hD] at hal
  refine kxs_getMethod kxs_ValueError e2 (PySem.W.looks_opaque X2 SC.lo) (l₀ := cdD.mro) (fun A Q E s k q => wpAny_bind ((PySem.W.looks_clsIn X2 hD) A _ E s k (wpAny_pure q))) rfl X2 hal hI hne (by decide +kernel) ?_
  -- the arguments, with the bound __init__ held
  have k3 : ∀ b o, h2.get? b = some o → (h2.push (kxs_mw "ValueError.__init__" a)).get? b = some o := fun b o q => Heap.get?_push_of_some _ q
  have I3 := I2.kept (h' := h2.push (kxs_mw "ValueError.__init__" a)) (t' := s.toks + (ps.zip us).length + 1) k3
  have hun : H h2.objs.size = none := I2.hok.fresh (Nat.le_refl _)
  have I3p := I3.pins_of (pins' := [(h2.objs.size, kxs_mw "ValueError.__init__" a)]) fun p hp => by
    rw [List.mem_singleton.mp hp]
    exact ⟨Heap.get?_push_at rfl rfl, hun, Nat.ne_of_gt I2.lt, I2.nofs (Nat.le_refl _), fun v q => by cases q⟩
  have hq := hA.run p3 [(h2.objs.size, kxs_mw "ValueError.__init__" a)] _ _ H _ I3p hrd
  refine kxs_callWith (i := "ValueError.__init__") (x := a) (by
    rw [he]
    rfl) ?_
  rw [he] at hq ⊢
  refine Calls.evalArgs_plain ?_
  refine thn hq fun us s4 h4 => ?_
  obtain ⟨vV, H1, I4, rV, hlen, hae1, hrest⟩ := h4
  obtain ⟨hu4, _⟩ := I4.pin (h2.objs.size, kxs_mw "ValueError.__init__" a) (List.mem_append_right _ List.mem_cons_self)
  refine ⟨hu4, ?_⟩
  obtain ⟨nm, q, N', bs, bm, sn, sub, ab, col, dd, k0, k1, k2', k3', k5, hC, hbm⟩ := SC.ox.cls
  obtain ⟨t4, ho4⟩ := exo_at I4.hok hae1
  obtain ⟨hp4, g4, d4, tk4, os4⟩ := s4
  show wpAny _ _ (call (.ref h2.objs.size) us) _ _ _
  refine call_mw (I4.kIn _ _ hC) ho4 hu4 (by
    rw [← rV.length, sizeLine_eq]
    omega) (fun h5 t5 k5' e5 => ?_)
  have J := I4.write (t' := tk4) (x := a) (e := a) (o := exo a D none) (by rw [hae1]; exact True.intro) (.inl rfl) k5' ⟨_, e5⟩ (exo_ok e5)
  have eu : upd H1 a (exo a D none) = H1 := by
    funext b
    by_cases hb : b = a
    · rw [hb, upd_same, hae1]
    · rw [upd_ne hb]
  rw [eu] at J
  refine wpAt_of_wpAny ?_
  refine wpAny_mono (hR.run [] _ _ H1 _ (J.pins_of fun p hp => absurd hp List.not_mem_nil) hrest) (fun fl s' hs => ?_) fun e s' hs => hs
  cases fl with
  | ret u =>
    obtain ⟨v, σ', H', J', rv, q⟩ := hs
    exact ⟨v, H', J'.os, J'.bare, J'.base, J'.hok, rv, q⟩
  | next =>
    obtain ⟨σ', H', J', q⟩ := hs
    exact ⟨V.non, H', J'.os, J'.bare, J'.base, J'.hok, rfl, q⟩
  | brk =>
    obtain ⟨_, _, _, q⟩ := hs
    exact False.elim q
  | cont =>
    obtain ⟨_, _, _, q⟩ := hs
    exact False.elim q
end
/-! ### such a def, as Fun says of the others -/
structure FunS (P : Program) (K : PySem.W.Frag) (mg : Str → Option Value) (D : Addr) (x qual : Str) (st : Stmt) (f : Addr) (fd : FuncData) : Prop where
  ex : ∃ (oc : Value) (od : Option Addr) (kV doc pm : Value) (an : Option Addr) (cda cc : Addr) (ct : Value) (osl : Array (Option Value)), fd = PySem.W.fnX x qual (defArgs st) (defBody st) (defScope st) [("__class__", cc)] .none kV doc pm an (.ref cda) ct ∧ K.lookup f = some ⟨oc, od, .func fd, osl⟩ ∧ PySem.W.codeIn K (.ref cda) qual = true ∧ SupC P K mg D cc cda
theorem FunS.ok {CX : CXT} {P : Program} {w : World} {K : PySem.W.Frag} {mg : Str → Option Value} {base : Heap} {k : Nat} {f D : Addr} {x qual : Str} {st : Stmt} {fd : FuncData} {e : Expr} {rest : List Stmt} {ar : Arg} {N ps : List Str} {sp : Sp} {p0 p1 p2 p3 p4 : Pos}
    (F : FunS P K mg D x qual st f fd) (S : NdefX.NScope N ps ["__class__"] (defScope st)) (hB : defBody st = supBody e rest p0 p1 p2 p3 p4) (hN0 : N[0]? = some ar.arg) (hka : (defScope st).names.lookup ar.arg = some .local) (har : ((defArgs st).posonlyargs ++ (defArgs st).args).head? = some ar)
    (hks : (defScope st).names.lookup ("super" : Str) = some .globalImplicit) (len : ∀ vs H Q E, sp vs H Q E → vs.length = ps.length)
    (hbody : ∀ (cc cda : Addr) (A : Around) (outer : List Env) (s : Shared) (H : Hp) (vs : List V) (Q : VK) (E : XK), OexC K D → Room k (A.deeper (NdefX.envF ⟨x, qual, defArgs st, supBody e rest p0 p1 p2 p3 p4, defScope st, [("__class__", cc)], cda⟩ f s.heap.objs.size)) → sp vs H Q E →
      ∃ ta t, PA (NdefX.ncx CX P w K mg base N ⟨x, qual, defArgs st, supBody e rest p0 p1 p2 p3 p4, defScope st, [("__class__", cc)], cda⟩ f A outer s H E) [e] ta ∧
        PSs (NdefX.ncx CX P w K mg base N ⟨x, qual, defArgs st, supBody e rest p0 p1 p2 p3 p4, defScope st, [("__class__", cc)], cda⟩ f A outer s H E) rest t ∧ ∃ a, (NdefX.startF N vs [none])[0]? = some (some (.ref a)) ∧ H a = some (exo a D none) ∧
        ta (NdefX.startF N vs [none]) H fun us H1 => us.length ≤ 1000 ∧ H1 a = some (exo a D none) ∧ t { nx := fun _ H' => Q .non H', rt := Q } (NdefX.startF N vs [none]) H1)
    (he : ∀ env : Env, starEach [e] env = [(false, eval e env)] := by intro _; rfl)
    (hev : ∀ cc cda L, ∃ pl, eval (.Call (.Attribute (.Call (.Name "super" p0) [] [] p1) "__init__" p2) [e] [] p3) (NdefX.envF ⟨x, qual, defArgs st, supBody e rest p0 p1 p2 p3 p4, defScope st, [("__class__", cc)], cda⟩ f L) = (do
      let ov ← attributeBase (.Call (.Name "super" p0) [] [] p1) "__init__" (NdefX.envF ⟨x, qual, defArgs st, supBody e rest p0 p1 p2 p3 p4, defScope st, [("__class__", cc)], cda⟩ f L) (eval (.Call (.Name "super" p0) [] [] p1) (NdefX.envF ⟨x, qual, defArgs st, supBody e rest p0 p1 p2 p3 p4, defScope st, [("__class__", cc)], cda⟩ f L))
      standAt p2.atName
      let (fm, first) ← holding [ov] (getMethod ov "__init__" pl)
      callWith p3 fm first (backTo p3 (starEach [e] (NdefX.envF ⟨x, qual, defArgs st, supBody e rest p0 p1 p2 p3 p4, defScope st, [("__class__", cc)], cda⟩ f L))) []) := by intro cc cda L; exact ⟨_, rfl⟩)
    (hint : ∀ cc cda L, interactive (NdefX.envF ⟨x, qual, defArgs st, supBody e rest p0 p1 p2 p3 p4, defScope st, [("__class__", cc)], cda⟩ f L) = false := by intro cc cda L; rfl)
    (hsw : ∀ cc cda L, swapsWith (.Call (.Attribute (.Call (.Name "super" p0) [] [] p1) "__init__" p2) [e] [] p3) none p4.line (NdefX.envF ⟨x, qual, defArgs st, supBody e rest p0 p1 p2 p3 p4, defScope st, [("__class__", cc)], cda⟩ f L) = pure false := by intro cc cda L; rfl) : FnOk P w K mg base CX (k + 1) f fd ps sp := by
  obtain ⟨oc, od, kV, doc, pm, an, cda, cc, ct, osl, rfl, lk, hcd, SC⟩ := F.ex
  rw [hB] at lk ⊢
  exact fn_sup lk hcd S hN0 hka har hks SC len (fun A outer s H vs Q E hr h => hbody cc cda A outer s H vs Q E SC.ox hr h) he (hev cc cda) (hint cc cda) (hsw cc cda)
theorem FunS.binds {P : Program} {K : PySem.W.Frag} {mg : Str → Option Value} {D : Addr} {x qual : Str} {st : Stmt} {f : Addr} {fd : FuncData} {ps : List Str} (F : FunS P K mg D x qual st f fd)
    (h : ∀ (kV doc pm : Value) (an : Option Addr) (cda cc : Addr) (ct : Value) (us : List Value), us.length = ps.length → bindArgs (PySem.W.fnX x qual (defArgs st) (defBody st) (defScope st) [("__class__", cc)] .none kV doc pm an (.ref cda) ct) ⟨us, []⟩ = pure (ps.zip us)) : Binds K fd ps [] := by
  obtain ⟨oc, od, kV, doc, pm, an, cda, cc, ct, osl, rfl, lk, hcd, _⟩ := F.ex
  exact .all (h kV doc pm an cda cc ct)
/-! ### several except clauses, each with a name -/
/-- what the clauses wish, one behind the other; i: the name's slot -/
def wManyA (K : PySem.W.Frag) (Wout : WX) (D : Ends) : List (Value × Nat × (Addr → Value → Option Addr → TS)) → WX
  | [] => Wout
  | (c, i, ts) :: r => fun cls d σ H => ∃ b, PySem.W.exmOne K cls c = some b ∧
      (b = true → ∀ a, H a = none → ts a cls d { nx := fun σ' H' => D.nx (σ'.set i none) H', rt := D.rt, bk := fun σ' H' => D.bk (σ'.set i none) H', ct := fun σ' H' => D.ct (σ'.set i none) H' } (σ.set i (some (.ref a))) H) ∧
      (b = false → wManyA K Wout D r cls d σ H)
inductive HdsA (X : Cx) : List ExceptHandler → List (Value × Nat × (Addr → Value → Option Addr → TS)) → Prop
  | nil : HdsA X [] []
  | cons {x n : Str} {c : Value} {i : Nat} {ts : Addr → Value → Option Addr → TS} {b₀ : Stmt} {suite : List Stmt} {np pos' : Pos} {hds : List ExceptHandler} {l : List (Value × Nat × (Addr → Value → Option Addr → TS))} (hc : Names X x c) (hi : X.N[i]? = some n) (hln : X.env.kindOf n = some .local)
      (hsu : ∀ (a : Addr) (oe : Obj) (cls : Value) (d : Option Addr) (pn : List (Addr × Obj)), Zc cls d oe → (∃ vs, oe.data = .fields vs) → PSs (X.suite a ((a, oe) :: pn)) (b₀ :: suite) (ts a cls d)) (r : HdsA X hds l) :
      HdsA X (.ExceptHandler (some (.Name x np)) (some n) (b₀ :: suite) pos' :: hds) ((c, i, ts) :: l)
section
variable {X : Cx} {body : List Stmt} {h₀ : ExceptHandler} {hds : List ExceptHandler} {l : List (Value × Nat × (Addr → Value → Option Addr → TS))} {pos : Pos} {tb : WX → TS} {Wout : WX}
theorem ps_try_manyA (hs : X.stack = X.env :: X.outer) (hf : X.env.frame = some X.env.locals) (hN : X.N.Nodup) (tk : Takes X Wout)
    (hb : ∀ (W : WX) (pn : List (Addr × Obj)) (xe : Value → Shared → Prop), Takes (X.tr pn xe) W → PassesOwn (model X.prog X.w) X.A X.env xe → PSs (X.tr pn xe) body (tb W))
    (hh : HdsA X (h₀ :: hds) l) : PS X (.Try body (h₀ :: hds) [] [] pos) (fun D σ H => tb (wManyA X.K Wout D l) D σ H) := by
  refine ⟨fun pins s σ H D I h => ?_⟩
  have ok := I.ok
  have hfr : X.A.frames = some (X.env :: X.outer) := by
    rw [ok.frames, hs]
  let after : Value → Shared → Prop := fun e s₁ => wpAny (model X.prog X.w) X.A (noteFrame e X.env) (fun _ s₂ => wpAny (model X.prog X.w) X.A (setFlight e none) (fun _ s₃ => wpAny (model X.prog X.w) X.A (handleBy e X.env (h₀ :: hds)) (SP X pins D) X.xe s₃) X.xe s₂) X.xe s₁
  have takes : Takes (X.tr (X.pn ++ pins) after) (wManyA X.K Wout D l) := by
    intro u s' xx
    obtain ⟨a, B, sI, pins', σ', H', cls, d, rfl, J', nb, up, sky, na, os, ag, wsh⟩ := xx
    have J : Inv X pins σ' H' sI := J'.ofTry ok
    have sky' : Sky B (X.env :: X.outer) a (Zc cls d) X.env.locals s'.heap := by
      rw [← hs]
      exact sky
    show wpAny (model X.prog X.w) X.A (noteFrame (.ref a) X.env) _ _ _
    refine Sky.land Zc.steady hfr hf sky' fun h3 fl3 up3 => ?_
    have J3 : Inv X pins σ' H' { s' with heap := h3 } := J.landed nb fl3.1 (up.trans up3) os ag
    obtain ⟨oe3, vs3, he3, hz3, hd3⟩ := fl3.there
    have nfr : a ∉ frs (X.env :: X.outer) := fun hm => by
      obtain ⟨_, o', e', hnf⟩ := fl3.2.2.1.mem hm
      rw [he3] at e'
      cases e'
      exact hnf _ hd3
    have nL : a ≠ X.env.locals := fun z => nfr (List.mem_filterMap.mpr ⟨X.env, List.mem_cons_self, by rw [hf, z]⟩)
    have nF : a ∉ X.fs := fun hm => by
      obtain ⟨e, he, q⟩ := List.mem_filterMap.mp hm
      exact nfr (List.mem_filterMap.mpr ⟨e, List.mem_cons_of_mem _ he, q⟩)
    have S3 := J3.suite he3 hd3 na nL nF
    have go : ∀ {hds' : List ExceptHandler} {l' : List (Value × Nat × (Addr → Value → Option Addr → TS))}, HdsA X hds' l' → wManyA X.K Wout D l' cls d σ' H' →
        wpAny (model X.prog X.w) X.A (handleBy (.ref a) X.env hds') (SP X pins D) X.xe { s' with heap := h3 } := by
      intro hds' l' hk
      induction hk with
      | nil =>
        intro wq
        refine wpAny_handleBy_nil ?_
        obtain ⟨k1, k2, k3, oe, vs, T, oT, ts', he, hz, hd, h1, hr⟩ := id fl3
        unfold PySem.passOn
        refine wpAny_bind (wpAny_field he hd h1 ?_)
        rw [if_neg (by simp : ¬ ((Value.ref T == Value.none) = true))]
        have fin : wpAny (model X.prog X.w) X.A (setFlight (.ref a) X.env.frame) (fun _ s4 => wpAny (model X.prog X.w) X.A (throw (.ref a) : Sem Flow) (SP X pins D) X.xe s4) X.xe { s' with heap := h3 } := by
          rw [hf]
          refine HandSPX.setFlight_upZ fl3 fun h4 hh4 up4 => wpAny_throw (tk _ _ ?_)
          refine ⟨a, B, sI, pins, σ', H', cls, d, rfl, J, nb, (up.trans up3).trans up4, .inr (.inr ?_), na, os, ag, wq⟩
          rw [hs]
          exact hh4
        first
          | exact wpAny_bind (wpAny_pure (wpAny_bind fin))
          | exact wpAny_bind fin
      | @cons x n c i ts b₀ suite np pos' hds2 l2 hc hi hln hsu r ih =>
        intro wq
        obtain ⟨b, hb1, hyes, hno⟩ := wq
        refine wpAny_handleBy_cons (codeAny_handlers_test ?_) (by intro q; cases q)
        have LT : PySem.W.Looks (model X.prog X.w) h3 (typeOf (.ref a)) cls := fun A Q E s k q => wpAny_typeOf_ref (k _ _ he3) (by
          rw [hz3.1]
          exact q)
        have LM := PySem.W.exm_one (M := model X.prog X.w) (J3.kIn) LT hb1
        have test : ∀ {Q : Value → Shared → Prop} {E : Value → Shared → Prop}, Q c { s' with heap := h3 } → wpAny (model X.prog X.w) (X.A.mark (some (.ref a))) (eval (.Name x np) X.env) Q E { s' with heap := h3 } := by
          intro Q E q
          obtain ⟨hg, hdbg, hm | ⟨hm, hv, hnn⟩⟩ := hc
          · exact ld_glob (X := X.suite a ((a, oe3) :: (X.pn ++ pins))) S3 hg hm q hdbg
          · exact ld_blt (X := X.suite a ((a, oe3) :: (X.pn ++ pins))) S3 hg hm hv q hnn hdbg
        refine test (LM.here ?_)
        cases b with
        | true =>
          refine codeAny_handlers_suite_as ?_
          refine HandSPX.lands_againZ fl3 fun h4 fl4 up4 => ?_
          have J4 : Inv X pins σ' H' { s' with heap := h4 } := J.landed nb fl4.1 ((up.trans up3).trans up4) os ag
          obtain ⟨oe4, vs4, he4, hz4, hd4⟩ := fl4.there
          have S4 := J4.suite he4 hd4 na nL nF
          refine store_ok (X := X.suite a ((a, oe4) :: (X.pn ++ pins))) (v := .ref a) S4 hN hi (.inl hln) rfl (fun s5 S5 => ?_) (.inr hln)
          refine wpAny_mono ((hsu a oe4 cls d (X.pn ++ pins) hz4 ⟨_, hd4⟩).run [] s5 _ H' _ S5 (hyes rfl a na)) (fun f s6 hsp => ?_) (fun _ _ z => False.elim z)
          have gone : ∀ {σ6 : L2.St} {H6 : Hp} {Q : Shared → Prop}, Inv (X.suite a ((a, oe4) :: (X.pn ++ pins))) [] σ6 H6 s6 → (∀ s7, Inv X pins (σ6.set i none) H6 s7 → Q s7) →
              wpAny (model X.prog X.w) X.A (do bindName X.env n .none; unbindBehindTheSuite X.env n pos') (fun _ s7 => Q s7) X.xe s6 := by
            intro σ6 H6 Q S6 hq
            exact gone_ok (S6.unsuite ok) hN hi hln hq
          cases f with
          | next =>
            obtain ⟨σ6, H6, S6, q6⟩ := hsp
            exact gone S6 fun s7 J7 => ⟨_, _, J7, q6⟩
          | brk =>
            obtain ⟨σ6, H6, S6, q6⟩ := hsp
            exact gone S6 fun s7 J7 => ⟨_, _, J7, q6⟩
          | cont =>
            obtain ⟨σ6, H6, S6, q6⟩ := hsp
            exact gone S6 fun s7 J7 => ⟨_, _, J7, q6⟩
          | ret u =>
            obtain ⟨v6, σ6, H6, S6, r6, q6⟩ := hsp
            exact gone S6 fun s7 J7 => ⟨_, _, _, J7, r6, q6⟩
        | false =>
          show wpAny _ X.A (handleBy (.ref a) X.env hds2) _ _ _
          exact ih (hno rfl)
    exact go hh wsh
  refine wpAny_Try_except ?_
  refine wpAny_mono ((hb (wManyA X.K Wout D l) (X.pn ++ pins) after takes PassesOwn.looking).run [] s σ H D (I.toTry _) h) (fun f s1 hsp => ?_) (fun e s1 he => he)
  cases f with
  | next =>
    obtain ⟨σ', H', J', q⟩ := hsp
    exact wpAny_execs_nil ⟨σ', H', J'.ofTry ok, q⟩
  | brk =>
    obtain ⟨σ', H', J', q⟩ := hsp
    exact ⟨σ', H', J'.ofTry ok, q⟩
  | cont =>
    obtain ⟨σ', H', J', q⟩ := hsp
    exact ⟨σ', H', J'.ofTry ok, q⟩
  | ret u =>
    obtain ⟨v, σ', H', J', r, q⟩ := hsp
    exact ⟨v, σ', H', J'.ofTry ok, r, q⟩
end
/-! ### isinstance of a caught error, with a dict of its own or without -/
section
open PySem.W (InstAt KitX findIn specialIn takesIn mroIn subIn hasDictIn clsIn)
variable {prog : Program} {w : World} {A : Around} {E : Value → Shared → Prop} {s : Shared} {K : PySem.W.Frag} {x D : Addr} {ox od : Obj}
theorem kin_classD {Q : Option Value → Shared → Prop} (T : ExcC K D) (X : K.In s.heap) (I : InstAt s.heap x ox D (some od)) (h : Q (some (.ref D)) { s with toks := s.toks + 1 }) : wpAny (model prog w) A (getAttr? (.ref x) "__class__") Q E s := by
  have hcD : (clsIn K D).isSome = true := by
    obtain ⟨cd, hc, _⟩ := PySem.W.any_some T.hd
    rw [hc]
    rfl
  have hf := PySem.W.findObj_data (od := od) hcD T.ha T.hn T.ht
  obtain ⟨hp, g, d, t, os⟩ := s
  have L0 := I.type (M := model prog w)
  have L1 := PySem.W.looks_findIn (M := model prog w) X T.hg
  have L2 := PySem.W.looks_findIn (M := model prog w) X T.hk
  have L3 := PySem.W.looks_find (M := model prog w) X I hf
  have sub : PySem.W.Looks (model prog w) hp (isInstance (.ref x) (.type "BaseException")) true := L0.andThen (PySem.W.looks_subIn X T.hs)
  have hx0 : (false && onTheHeap (Value.builtin "BaseException.__getattribute__")) = false := rfl
  have hx2 : (Value.builtin "BaseException.__getattribute__" == Value.builtin "object.__getattribute__") = false := by decide +kernel
  have hx1 : (onTheHeap (Value.ref D) && Value.builtin "BaseException.__getattribute__" == Value.builtin "object.__getattribute__") = false := by
    rw [hx2]
    rfl
  unfold getAttr? getAttrBy? getAttrBy
  refine wpAny_bind (wpAny_mkText (wpAny_bind (wpAny_attempt (wpAny_holding (wpAny_bind (L0.at (wpAny_bind (L1.at ?_))))))))
  show wpAny _ _ (if (onTheHeap (Value.ref D) && Value.builtin "BaseException.__getattribute__" == Value.builtin "object.__getattribute__") = true then _ else _) _ _ _
  rw [hx1, if_neg Bool.false_ne_true]
  unfold getAttrByItsOwn hookBefore
  refine wpAny_bind ?_
  have hon : onTheHeap (Value.ref D) = true := rfl
  rw [if_pos hon]
  refine L2.at ?_
  refine wpAny_bind (wpAny_attempt (wpAny_holding ?_))
  unfold callGetattribute
  rw [hx0, if_neg Bool.false_ne_true]
  unfold boundAndCalled
  rw [PySem.F.excAttr_ValueError.ga.bind (.ref x)]
  refine wpAny_bind (wpAny_pure ?_)
  show wpAny _ _ (call (.builtin "BaseException.__getattribute__") [.ref x, .str "__class__" t]) _ _ _
  refine wpAny_call (codeAny_call_builtin PySem.F.excAttr_ValueError.ga.plain PySem.F.entry_bexc_ga ?_)
  refine @PySem.W.check_slot (model prog w) _ _ ⟨hp, g, d, t + 1, os⟩ "BaseException.__getattribute__" "BaseException" "__getattribute__" (.ref x) [.str "__class__" t] [] _ (by decide +kernel) (by decide +kernel) sub (PySem.F.args_bexc_ga (.ref x) (.str "__class__" t)) ?_
  unfold Builtin.«object.__getattribute__»
  refine wpAny_bind (wpAny_of_eq (a := ((Value.ref x : Value), [Value.str "__class__" t])) (by first | rfl | (simp only [slotArgs]; rfl)) ?_)
  refine wpAny_bind (wpAny_pure (wpAny_bind (L0.at (wpAny_bind (L3.at ?_)))))
  show wpAny _ _ (holding [Value.builtin "object.__class__"] (call (.builtin "getset_descriptor.__get__") [.builtin "object.__class__", .ref x, .ref D]) >>= ret) _ _ _
  refine wpAny_bind (wpAny_holding (wpAny_call (PySem.W.class_get (s := ⟨hp, g, d, t + 1, os⟩) (ox := ox) (od := some od) X I T.hm ?_)))
  refine wpAny_pure ?_
  show wpAny _ _ (handedOut (.ref D)) _ _ _
  rw [PySem.W.handedOut_of (v := .ref D) rfl]
  first
    | exact wpAny_pure (wpAny_pure h)
    | exact wpAny_pure h
    | exact wpAny_pure (wpAny_bind (wpAny_pure (wpAny_pure h)))
theorem kitx_excD (T : ExcC K D) : KitX K (.ref x) (.ref D) (fun h => InstAt h x ox D (some od)) where
  ty := fun _ _ _ I => I.type
  it := by
    intro M h X _
    obtain ⟨cdD, hcD, _⟩ := PySem.W.any_some T.hd
    unfold PySem.W.clsIn at hcD
    split at hcD
    · rename_i c' d' cd' sl' ho
      intro A' Q' E' s' k q
      unfold isType loadHead
      exact wpAny_bind (wpAny_loadPart (k _ _ (X _ _ ho)) (wpAny_pure q))
    · cases hcD
  ne := (PySem.W.handS_kitx_exc (x := x) (ox := ox) T.hg T.hk T.hs T.hd T.ha T.hn T.ht T.hm).ne
  ca := fun X I k => kin_classD T X I k
end
/-- isinstance(e, c), e the caught error of the class at D, its dict at dd -/
def rIsD (K : PySem.W.Frag) (D a dd : Addr) : List V → Hp → VK → Prop := fun xs H Q => ∃ (c : V) (cv : Value) (b : Bool) (fs : List (Str × V)), xs = [.ref a, c] ∧ H dd = some (.xd fs) ∧ (∀ u, RelV c u → u = cv) ∧ PySem.W.kitOne K (.ref D) cv = some b ∧ Q (.bl b) H
theorem call_isD {X : Cx} {a D dd : Addr} {oe : Obj} {pn : List (Addr × Obj)} (C : ExcC X.K D) (hz : Zc (.ref D) (some dd) oe) (hf : ∃ vs, oe.data = .fields vs) : CallR (X.suite a ((a, oe) :: pn)) (.builtin "isinstance") (rIsD X.K D a dd) := by
  intro pins s σ H xs us Q I r h
  obtain ⟨c, cv, b, fs, rfl, hdd, hcv, e, q⟩ := h
  cases r with
  | cons rx rr =>
    cases rr with
    | cons rt rr =>
      cases rr
      cases rx
      have ec := hcv _ rt
      subst ec
      obtain ⟨hget, _⟩ := I.pin (a, oe) (List.mem_append.mpr (.inl List.mem_cons_self))
      obtain ⟨vs, hv⟩ := hf
      obtain ⟨mA, hns, hr⟩ := (show ObjOk X.prog X.w H s.heap dd (.xd fs) from I.hok dd _ hdd)
      obtain ⟨od, ho, hl⟩ := lookIn_ns hns
      have J : PySem.W.InstAt s.heap a oe D (some od) := by
        obtain ⟨oc, oo, oda, osl⟩ := oe
        obtain ⟨h1, h2⟩ := hz
        dsimp only at h1 h2 hv
        subst h1 h2 hv
        exact ⟨hget, rfl, rfl, ho⟩
      exact PySem.W.kia_one (kitx_excD C) I.kIn J e (fun z => nomatch z) fun tk => ⟨.bl b, H, I.kept (t' := tk) fun _ _ z => z, rfl, q⟩
/-! ### the same for whatever the clause has caught -/
def rIsX (K : PySem.W.Frag) (a : Addr) (cls : Value) (d : Option Addr) : List V → Hp → VK → Prop := fun xs H Q => ∃ (D : Addr) (c : V) (cv : Value) (b : Bool), cls = .ref D ∧ ExcC K D ∧ (∀ dd, d = some dd → ∃ fs, H dd = some (.xd fs)) ∧ xs = [.ref a, c] ∧ (∀ u, RelV c u → u = cv) ∧ PySem.W.kitOne K (.ref D) cv = some b ∧ Q (.bl b) H
theorem call_isX {X : Cx} {a : Addr} {cls : Value} {d : Option Addr} {oe : Obj} {pn : List (Addr × Obj)} (hz : Zc cls d oe) (hf : ∃ vs, oe.data = .fields vs) : CallR (X.suite a ((a, oe) :: pn)) (.builtin "isinstance") (rIsX X.K a cls d) := by
  intro pins s σ H xs us Q I r h
  obtain ⟨D, c, cv, b, rfl, C, hd, rfl, hcv, e, q⟩ := h
  cases d with
  | none => exact call_isE C hz hf pins s σ H _ us Q I r ⟨c, cv, b, rfl, hcv, e, q⟩
  | some dd =>
    obtain ⟨fs, hfs⟩ := hd dd rfl
    exact call_isD C hz hf pins s σ H _ us Q I r ⟨c, cv, b, fs, rfl, hfs, hcv, e, q⟩
/-- an own class as the second of isinstance -/
theorem kit_c {K : PySem.W.Frag} {t : Value} {C : Addr} {b : Bool} (h1 : PySem.W.isClsIn K C = true) (h2 : PySem.W.typeIn K (.ref C) = some (.type "type")) (h3 : PySem.W.subIn K t (.ref C) = some b) (h4 : (t == Value.ref C) = true → b = true) : PySem.W.kitOne K t (.ref C) = some b := by
  unfold PySem.W.kitOne
  by_cases h : (t == Value.ref C) = true
  · rw [if_pos h, h4 h]
  · rw [if_neg h]
    unfold PySem.W.kitCls
    have e : ((PySem.W.clsIn K C).isSome && PySem.W.typeIn K (.ref C) == some (.type "type")) = true := by
      unfold PySem.W.isClsIn at h1
      rw [h1, h2]
      rfl
    simp only [e, if_true]
    exact h3
/-- what a clause asks: the class of the error, the clause's class -/
theorem exm_c {K : PySem.W.Frag} {t : Value} {C : Addr} {b : Bool} (h0 : PySem.W.subIn K (.ref C) (.type "BaseException") = some true) (h1 : PySem.W.isClsIn K C = true) (h2 : PySem.W.typeIn K (.ref C) = some (.type "type")) (h3 : PySem.W.subIn K t (.ref C) = some b) : PySem.W.exmOne K t (.ref C) = some b := by
  unfold PySem.W.exmOne
  have e0 : (PySem.W.subIn K (.ref C) (.type "BaseException") == some true) = true := by
    rw [h0]
    rfl
  rw [if_pos e0]
  unfold PySem.W.kitCls
  have e : ((PySem.W.clsIn K C).isSome && PySem.W.typeIn K (.ref C) == some (.type "type")) = true := by
    unfold PySem.W.isClsIn at h1
    rw [h1, h2]
    rfl
  simp only [e, if_true]
  exact h3
/-! ### own == and len, a tuple turned round -/
section

theorem rng_rev (l : List Value) : ∀ n, n ≤ l.length → (List.range n).filterMap (fun k => l.reverse[k]?) = l.reverse.take n := by
  intro n
  induction n with
  | zero =>
    intro _
    simp
  | succ n ih =>
    intro h
    rw [List.range_succ, List.filterMap_append, ih (by omega)]
    have hn : n < l.reverse.length := by
      rw [List.length_reverse]
      omega
    have e : [n].filterMap (fun k => l.reverse[k]?) = [l.reverse[n]] := by
      rw [List.filterMap_cons, List.getElem?_eq_getElem hn]
      rfl
    rw [e, ← List.take_append_getElem hn]
theorem pick_rev (xs : Array Value) : ((List.range xs.size).filterMap fun (m : Nat) => xs[(((xs.size : Int) - 1) + (m : Int) * (-1)).toNat]?).toArray = xs.toList.reverse.toArray := by
  have e : (List.range xs.size).filterMap (fun (m : Nat) => xs[(((xs.size : Int) - 1) + (m : Int) * (-1)).toNat]?) = (List.range xs.size).filterMap (fun k => xs.toList.reverse[k]?) := by
    have fc : ∀ (f g : Nat → Option Value) (l : List Nat), (∀ m, m ∈ l → f m = g m) → l.filterMap f = l.filterMap g := by
      intro f g l
      induction l with
      | nil => exact fun _ => rfl
      | cons a l ih =>
        intro h
        rw [List.filterMap_cons, List.filterMap_cons, h a (List.mem_cons_self ..), ih fun m hm => h m (List.mem_cons_of_mem _ hm)]
    refine fc _ _ _ fun m hm => ?_
    have h := List.mem_range.mp hm
    have h1 : (((xs.size : Int) - 1) + (m : Int) * (-1)).toNat = xs.size - 1 - m := by omega
    rw [h1, List.getElem?_reverse (by rw [Array.length_toList]; exact h), Array.length_toList, Array.getElem?_toList]
  rw [e, rng_rev xs.toList xs.size (by rw [Array.length_toList]; exact Nat.le_refl _), List.take_of_length_le (by rw [List.length_reverse, Array.length_toList]; exact Nat.le_refl _)]
section
variable {prog : Program} {w : World} {A : Around} {E : Value → Shared → Prop} {s : Shared}
theorem sliceApplied_rev {sl : Addr} {vs : Value} {n : Nat} {Q : Int × Int × Nat → Shared → Prop} (hs : s.heap.IsSliceOf sl .none .none vs) (ps : IsPart vs (some (-1)))
    (h : Q ((n : Int) - 1, -1, n) s) : wpAny (model prog w) A (Builtin.Slice.sliceApplied (.ref sl) (pure (n : Int))) Q E s := by
  obtain ⟨os, hos, hcs, hds⟩ := id hs
  unfold Builtin.Slice.sliceApplied Builtin.Slice.sliceFields
  refine wpAny_bind (wpAny_bind (wpAny_field hos hds (x := .none) rfl (wpAny_bind (wpAny_field hos hds (x := .none) rfl (wpAny_bind (wpAny_field hos hds (x := vs) rfl (wpAny_pure ?_)))))))
  refine wpAny_bind (HT.slicePart_ ps ?_)
  show wpAny _ _ (if ((-1 : Int) == 0) = true then _ else _) _ _ s
  rw [if_neg (by decide)]
  refine wpAny_bind (slicePart_none (wpAny_bind (slicePart_none (wpAny_bind (wpAny_pure ?_)))))
  show wpAny _ _ (pure ((n : Int) - 1, (-1 : Int), Builtin.Slice.slicePlaces ((n : Int) - 1) (-1) (-1))) _ _ s
  have e : Builtin.Slice.slicePlaces ((n : Int) - 1) (-1) (-1) = n := by
    unfold Builtin.Slice.slicePlaces
    have h1 : ¬ ((-1 : Int) > 0) := by omega
    simp only [h1, if_false]
    split
    · have : ((n : Int) - 1 - -1 - 1) / (- -1) + 1 = n := by
        rw [show (- -1 : Int) = 1 from rfl, Int.ediv_one]
        omega
      rw [this]
      omega
    · omega
  rw [e]
  exact wpAny_pure h
theorem getItem_tuple_rev {t sl : Addr} {items : Array Value} {vs : Value} {Q : Value → Shared → Prop} (ht : IsTup s.heap t items) (hs : s.heap.IsSliceOf sl .none .none vs) (ps : IsPart vs (some (-1)))
    (h : Q (.ref s.heap.objs.size) { s with heap := s.heap.push { cls := .type "tuple", data := .seq items.toList.reverse.toArray } })
    (hsz : items.size ≤ sizeLine) : wpAny (model prog w) A (getItem (.ref t) (.ref sl)) Q E s := by
  have htake : sizeOk (.seq items.toList.reverse.toArray) := by
    show items.toList.reverse.toArray.size ≤ sizeLine
    rw [List.size_toArray, List.length_reverse, Array.length_toList]
    exact hsz
  obtain ⟨os, hos, hcs, hds⟩ := id hs
  have hTs : s.TypeIs (.ref sl) "slice" := ⟨os, hos, hcs⟩
  unfold getItem
  try with_reducible refine wpAny_holding ?_
  first | refine wpAny_bind (wpAny_pure ?_) | skip
  refine wpAny_bind (wpAny_sequenceKey ht.typeIs (by decide) ?_)
  refine wpAny_bind (wpAny_callSpecial?_slot (name := Str.ofString "__getitem__") ht.typeIs PyProof.Rows.slot_tuple_getitem
    (wpAny_call_entry PyProof.Rows.slot_tuple_getitem ht.typeIs entry_tuple_getitem ?_ (args_tuple_getitem _ _)))
  show wpAny _ _ (Builtin.Tuple.tupleItemsOf (.ref t) >>= _) _ _ s
  refine wpAny_bind (tupleItemsOf_ ht ?_)
  refine wpAny_bind (wpAny_typeOf hTs ?_)
  rw [if_pos (by decide)]
  refine wpAny_bind (sliceApplied_rev hs ps ?_)
  have hno : ¬ ((((items.size : Int) - 1 == 0) && ((-1 : Int) == 1) && (items.size == items.size)) = true) := by
    intro q
    rw [Bool.and_eq_true, Bool.and_eq_true] at q
    exact absurd q.1.2 (by decide)
  show wpAny _ _ (if (((items.size : Int) - 1 == 0) && ((-1 : Int) == 1) && (items.size == items.size)) = true then _ else _) _ _ s
  rw [if_neg hno, pick_rev]
  first
    | exact wpAny_bind (m := Builtin.Tuple.tupleExact _) (wpAny_newObj_type (wpAny_pure ⟨_, rfl, wpAny_pure h⟩) htake)
    | exact wpAny_bind (m := Builtin.Tuple.tupleExact _) (wpAny_newObj_type (wpAny_bind (wpAny_pure (wpAny_pure ⟨_, rfl, wpAny_pure h⟩))) htake)
    | exact wpAny_bind (wpAny_bind (m := Builtin.Tuple.tupleExact _) (wpAny_newObj_type (wpAny_pure (wpAny_pure ⟨_, rfl, wpAny_pure h⟩)) htake))
    | exact wpAny_bind (wpAny_bind (m := Builtin.Tuple.tupleExact _) (wpAny_newObj_type (wpAny_pure ⟨_, rfl, wpAny_pure h⟩) htake))
end
section
variable {X : Cx}
def tRevT (K : PySem.W.Frag) (te : TE) : TE := fun σ H Q => te σ H fun x H1 => ∃ a xs, x = .ref a ∧ SqT K H1 a xs ∧ ∀ p, H1 p = none → Q (.ref p) (upd H1 p (.tup xs.reverse))
theorem pe_revT {e : Expr} {te : TE} {k : Nat} {p1 p2 p3 pos : Pos} (he : PE X e te) : PE X (.Subscript e (.Slice none none (some (.UnaryOp .USub (.Constant (.int 1) k p1) p2)) p3) pos) (tRevT X.K te) := by
  refine ⟨fun pins s σ H Q I h => ?_⟩
  refine Subscript_ (thn (he.run pins s σ H _ I h) fun v s1 ⟨x, H1, I1, r1, q1⟩ => ?_)
  obtain ⟨a, xs, ex, hx, q⟩ := q1
  subst ex
  cases r1
  have hst : PO X (some (.UnaryOp .USub (.Constant (.int 1) k p1) p2)) (tPart (tUn (rU fun i => .int (-i)) (tC (.int 1)))) := po_some (pe_un un_neg pe_int)
  refine wpAny_Slice (thn (po_none.run pins s1 σ H1 (fun o H2 => o = none ∧ H2 = H1) I1 ⟨rfl, rfl⟩) fun vl s2 ⟨l, H2, I2, pl, el, e2⟩ => ?_)
  subst el e2
  refine thn (po_none.run pins s2 σ H2 (fun o H3 => o = none ∧ H3 = H2) I2 ⟨rfl, rfl⟩) fun vu s3 ⟨u, H3, I3, pu, eu, e3⟩ => ?_
  subst eu e3
  refine thn (hst.run pins s3 σ H3 (fun o H4 => o = some (-1) ∧ H4 = H3) I3 ⟨1, rfl, -1, rfl, rfl, rfl⟩) fun vs s4 ⟨o, H4, I4, ps, eo, e4⟩ => ?_
  subst eo e4
  have I5 : Inv X pins σ H4 { s4 with heap := s4.heap.push { cls := .type "slice", data := .fields #[vl, vu, vs] } } := I4.kept (t' := s4.toks) fun b ob q => Heap.get?_push_of_some _ q
  obtain ⟨its, r, ht, hz⟩ := I5.tuple hx
  have hlen := r.length
  cases pl
  cases pu
  show wpAny (model X.prog X.w) X.A (subscriptTail e (.Slice none none (some (.UnaryOp .USub (.Constant (.int 1) k p1) p2)) p3) (.ref a) (.ref s4.heap.objs.size)) (EP X pins σ Q) X.xe { s4 with heap := s4.heap.push { cls := .type "slice", data := .fields #[.none, .none, vs] } }
  refine tail_any (ops := [.ref a, .ref s4.heap.objs.size]) ht.typeIs (PyProof.Rows.slot_tuple_getitem.lookup) ?_ (by with_unfolding_all rfl)
  refine getItem_tuple_rev ht (Heap.IsSliceOf.new _ .none .none vs) ps ?_ (by rw [List.size_toArray]; omega)
  refine ⟨.ref _, _, I5.laid (t' := s4.toks) (o := .tup xs.reverse) (fun b ob q => Heap.get?_push_of_some _ q) (Nat.le_refl _) ?_, rfl, q _ (I5.hok.fresh (Nat.le_refl _))⟩
  exact ⟨by rw [List.length_reverse]; exact hz, _, r.reverse, IsTup.new _ _⟩
/-- x == y, x an instance with the text's own ==, y of a known type, not of a class below -/
def rEqOwn (K : PySem.W.Frag) (C : Addr) (sp : Sp) (E : XK) : R2 := fun x y H Q => ∃ a dx fs t, x = .ref a ∧ H a = some (.ins C dx fs) ∧ TyX K H y t ∧ PySem.W.notFirst K C t = true ∧ sp [x, y] H (fun v H' => ∃ b, v = .bl b ∧ Q v H') E
theorem op_eqOwn {CX : CXT} {C f : Addr} {fd : FuncData} {ps : List Str} {n : Nat} {sp : Sp} {E : XK} (F : FnOk X.prog X.w X.K X.mg X.base CX n f fd ps sp) (hr : Room n X.A)
    (hs : PySem.W.findIn X.K (.ref C) "__eq__" = some (some (.ref f))) (hf : PySem.W.isFn X.K (.ref f) = true) (hb : Binds X.K fd ps []) (hx : Passes CX X E) : OpR X (compareOp .Eq) (rEqOwn X.K C sp E) := by
  intro pins s σ H x y v u Q I rx ry h
  obtain ⟨a, dx, fs, t, rfl, ha, ty, hn, q⟩ := h
  cases (show v = Value.ref a from rx)
  obtain ⟨mA, J, _⟩ := ins_get I.hok ha
  obtain ⟨od, J, _⟩ := J.look
  obtain ⟨P, Z, p, _⟩ := kit_of I ry ty
  obtain ⟨m, hF⟩ := I.fr
  show wpAny (model X.prog X.w) X.A (richCompare .Eq (.ref a) u) (EP X pins σ Q) X.xe s
  refine PySem.W.cmp_K (op := .Eq) (tb := t) hr.units0 hF I.ok.mod.kin J (Z.ty _ _ I.kIn p) hn hs hf ?_
  refine wpAny_mono (run_fn (us := [.ref a, u]) (vs := [.ref a, y]) F hr hb .nil hx I (.cons rfl (.cons ry .nil)) (by rw [List.append_nil]; exact q)) (fun w s' z => ?_) fun _ _ x => x
  obtain ⟨z', H', I', rz, b, ez, qz⟩ := z
  subst ez
  cases (show w = Value.bool b from rz)
  exact ⟨.bl b, H', I', rfl, qz⟩
/-- len(x), x an instance with the text's own __len__ -/
def rLenOwn (C : Addr) (sp : Sp) (E : XK) : List V → Hp → VK → Prop := fun xs H Q => ∃ a dx fs, xs = [V.ref a] ∧ H a = some (.ins C dx fs) ∧ sp [.ref a] H (fun v H' => ∃ i : Int, v = .int i ∧ (0 ≤ i ∧ i < 2 ^ 63) ∧ Q v H') E
theorem call_lenOwn {CX : CXT} {C f : Addr} {fd : FuncData} {ps : List Str} {n : Nat} {sp : Sp} {E : XK} (F : FnOk X.prog X.w X.K X.mg X.base CX n f fd ps sp) (hr : Room (n + 1) X.A)
    (hs : PySem.W.findIn X.K (.ref C) "__len__" = some (some (.ref f))) (hf : PySem.W.isFn X.K (.ref f) = true) (hb : Binds X.K fd ps []) (hx : Passes CX X E) : CallR X (.builtin "len") (rLenOwn C sp E) := by
  intro pins s σ H xs us Q I r h
  obtain ⟨a, dx, fs, rfl, ha, q⟩ := h
  obtain ⟨u, rfl, ru⟩ := r.one
  cases (show u = Value.ref a from ru)
  obtain ⟨mA, J, _⟩ := ins_get I.hok ha
  obtain ⟨od, J, _⟩ := J.look
  obtain ⟨m, hF⟩ := I.fr
  have hsp : sp ([V.ref a] ++ []) H (fun v H' => ∃ i : Int, v = .int i ∧ (0 ≤ i ∧ i < 2 ^ 63) ∧ Q v H') E := by
    rw [List.append_nil]
    exact q
  have b := hb s [.ref a] I.kIn (by rw [List.append_nil]; exact (F.len _ _ _ _ q))
  rw [List.append_nil] at b
  refine PySem.W.len_K hF I.ok.mod.kin J hs hf (wpAny_call (codeAny_mono (F.run X.A.in1 X.stack s H ⟨[.ref a], []⟩ [.ref a] [.ref a] _ E hr.in1 I.env0.in1 b (.cons rfl .nil) q) fun r s' hq => ?_))
  cases r with
  | error e => exact hx pins σ H s e s' I hq
  | ok fl =>
    cases fl with
    | ret w =>
      obtain ⟨z, H', I', rz, i, ez, hi, qz⟩ := I.after hq
      subst ez
      obtain ⟨t, e⟩ := (show ∃ t, w = Value.int i t from rz)
      cases e
      exact ⟨hi, .int i, H', I'.tok _, ⟨_, rfl⟩, qz⟩
    | next => exact False.elim hq
    | brk => exact False.elim hq
    | cont => exact False.elim hq
end
end
section
variable {X : Cx} {CX : CXT} {k : Nat} {f C : Addr} {fd : FuncData} {ps : List Str} {sp : Sp} {E : St → XK} {x : Str} {p pos : Pos} {e : Expr} {es : List Expr} {t : TA}
/-- C(e, ..) inside a try's body: E by the slots -/
def tMakeS (C : Addr) (sp : Sp) (E : St → XK) (t : TA) : TE := fun σ H Q => t σ H (mkO C sp (E σ) Q)
theorem run_makeS {pins : List (Addr × Obj)} {σ : St} {H : Hp} {s : Shared} {Q : VK} {us : List Value} {vs : List V} (M : Mk X.K C f) (F : FnOk X.prog X.w X.K X.mg X.base CX k f fd ps sp) (hr : Room (k + 1) X.A) (hb : Binds X.K fd ps [])
    (hx : PassesAt CX X σ (E σ)) (I : Inv X pins σ H s) (r : Vals vs us) (h : mkO C sp (E σ) Q vs H) : wpAny (model X.prog X.w) X.A (call (.ref C) us) (EP X pins σ Q) X.xe s := by
  have hq := h (s.heap.objs.size + 1) s.heap.objs.size (I.hok.fresh (Nat.le_succ _)) (I.hok.fresh (Nat.le_refl _)) (Nat.ne_of_lt (Nat.lt_succ_self _))
  have I2 := Inv.made (C := C) I
  have r2 : Vals (V.ref (s.heap.objs.size + 1) :: vs) (Value.ref (s.heap.objs.size + 1) :: us) := .cons rfl r
  have hl : (Value.ref (s.heap.objs.size + 1) :: us).length = ps.length := by
    have e := r2.length
    rw [F.len _ _ _ _ hq] at e
    exact e.symm
  have b := hb _ (Value.ref (s.heap.objs.size + 1) :: us) I2.kIn (by rw [List.append_nil]; exact hl)
  rw [List.append_nil] at b
  refine wpAny_call (make_map (f := f) I.kIn M.makes M.init (beq_iff_eq.mp M.fn) (codeAny_mono (F.run _ X.stack _ _ ⟨Value.ref (s.heap.objs.size + 1) :: us, []⟩ (Value.ref (s.heap.objs.size + 1) :: us) _ _ (E σ) (hr.make C us [])
    (I2.env0.make C us []) b r2 hq) fun r s' hq' => ?_))
  cases r with
  | error e => exact hx pins _ _ e s' I2 hq'
  | ok fl =>
    cases fl with
    | ret u =>
      obtain ⟨v, H', I3, rv, ev, q3⟩ := I2.after hq'
      subst ev
      exact ⟨rv, ⟨V.ref (s.heap.objs.size + 1), H', I3, rfl, q3⟩⟩
    | next => exact False.elim hq'
    | brk => exact False.elim hq'
    | cont => exact False.elim hq'
theorem pe_makeS (M : Mk X.K C f) (F : FnOk X.prog X.w X.K X.mg X.base CX k f fd ps sp) (hr : Room (k + 1) X.A) (hg : Gl X x) (hm : X.mg x = some (.ref C)) (hb : Binds X.K fd ps []) (hx : ∀ σ, PassesAt CX X σ (E σ))
    (ha : PA X (e :: es) t) (hdb : (x == ("__debug__" : Str)) = false := by decide) (he : starEach (e :: es) X.env = (false, eval e X.env) :: starEach es X.env := by rfl) (hpl : (backTo pos (starEach es X.env)).any (·.1) = false := by rfl) :
    PE X (.Call (.Name x p) (e :: es) [] pos) (tMakeS C sp E t) := by
  refine ⟨fun pins s σ H Q I h => ?_⟩
  refine wpAny_Call_Name_kw (ld_glob I hg hm ?_ hdb)
  refine PySem.W.callWith_K (h₀ := X.base) I.ok.mod.kin M.kp (thn (ha.run pos pins s σ H _ I h) fun us s1 ⟨vs, H1, I1, r, q⟩ => ⟨I1.kIn, ?_⟩) he hpl
  exact run_makeS M F hr hb (hx σ) I1 r q
end
def topS (i : Nat) : Stmt := PySem.Challenge.pw_butfewrows_k14_texts_refused.main.body.getD i (.Pass ⟨0, 0, 0, 0⟩)
abbrev s_InvalidText_init : Stmt := inClass (topS 4) 0
abbrev s_is_below : Stmt := topS 7
abbrev s_are_below : Stmt := topS 8
abbrev s_Machine_init : Stmt := inClass (topS 12) 0
abbrev s_check_steps : Stmt := topS 13
abbrev s_are_leads : Stmt := topS 14
abbrev s_check_good : Stmt := topS 15
abbrev s_read : Stmt := topS 19
abbrev s_words_of : Stmt := topS 20
abbrev s_check_words : Stmt := topS 21
abbrev s_words_at : Stmt := topS 22
abbrev s__law_mix : Stmt := topS 24
abbrev s__law_next : Stmt := topS 25
abbrev s__law_alike : Stmt := topS 26
abbrev s__law_pick : Stmt := topS 27
abbrev s__law_parts : Stmt := topS 28
abbrev s__law_wrong : Stmt := topS 29
abbrev s__law_due : Stmt := topS 30
abbrev s__law_answer : Stmt := topS 31
abbrev s__law_changed : Stmt := topS 32
abbrev s_law : Stmt := topS 33
theorem sc_InvalidText_init : NdefX.NScope ["self", "line", "word", "__class__"] ["self", "line", "word"] ["__class__"] (defScope s_InvalidText_init) := NdefX.nscope_by (by decide +kernel)
theorem sc_is_below : FnScope ["value", "limit"] ["value", "limit"] (defScope s_is_below) := ⟨rfl, rfl, rfl, by decide +kernel, rfl, by decide +kernel, by decide +kernel⟩
theorem sc_are_below : FnScope ["values", "limit", "value"] ["values", "limit"] (defScope s_are_below) := ⟨rfl, rfl, rfl, by decide +kernel, rfl, by decide +kernel, by decide +kernel⟩
theorem sc_Machine_init : FnScope ["self", "steps", "good"] ["self", "steps", "good"] (defScope s_Machine_init) := ⟨rfl, rfl, rfl, by decide +kernel, rfl, by decide +kernel, by decide +kernel⟩
theorem sc_check_steps : FnScope ["steps", "index", "leads"] ["steps"] (defScope s_check_steps) := ⟨rfl, rfl, rfl, by decide +kernel, rfl, by decide +kernel, by decide +kernel⟩
theorem sc_are_leads : FnScope ["leads", "stands"] ["leads", "stands"] (defScope s_are_leads) := ⟨rfl, rfl, rfl, by decide +kernel, rfl, by decide +kernel, by decide +kernel⟩
theorem sc_check_good : FnScope ["good", "stands", "one", "other"] ["good", "stands"] (defScope s_check_good) := ⟨rfl, rfl, rfl, by decide +kernel, rfl, by decide +kernel, by decide +kernel⟩
theorem sc_read : FnScope ["text", "lines", "rows", "letters", "index", "steps", "line", "words", "goal", "stand"] ["text"] (defScope s_read) := ⟨rfl, rfl, rfl, by decide +kernel, rfl, by decide +kernel, by decide +kernel⟩
theorem sc_words_of : FnScope ["line", "word"] ["line"] (defScope s_words_of) := ⟨rfl, rfl, rfl, by decide +kernel, rfl, by decide +kernel, by decide +kernel⟩
theorem sc_check_words : FnScope ["rows", "index", "least", "most", "words", "place", "word"] ["rows", "index", "least", "most"] (defScope s_check_words) := ⟨rfl, rfl, rfl, by decide +kernel, rfl, by decide +kernel, by decide +kernel⟩
theorem sc_words_at : FnScope ["place", "stands", "letters", "stand"] ["place", "stands", "letters"] (defScope s_words_at) := ⟨rfl, rfl, rfl, by decide +kernel, rfl, by decide +kernel, by decide +kernel⟩
theorem sc__law_mix : FnScope ["_law_script", "_law_seed", "_law_state", "_law_cell"] ["_law_script", "_law_seed"] (defScope s__law_mix) := ⟨rfl, rfl, rfl, by decide +kernel, rfl, by decide +kernel, by decide +kernel⟩
theorem sc__law_next : FnScope ["_law_h", "_law_cap", "_law_cell"] ["_law_h", "_law_cap"] (defScope s__law_next) := ⟨rfl, rfl, rfl, by decide +kernel, rfl, by decide +kernel, by decide +kernel⟩
theorem sc__law_alike : FnScope ["_law_found", "_law_due_here", "_law_k"] ["_law_found", "_law_due_here"] (defScope s__law_alike) := ⟨rfl, rfl, rfl, by decide +kernel, rfl, by decide +kernel, by decide +kernel⟩
theorem sc__law_pick : FnScope ["_law_h", "_law_things"] ["_law_h", "_law_things"] (defScope s__law_pick) := ⟨rfl, rfl, rfl, by decide +kernel, rfl, by decide +kernel, by decide +kernel⟩
theorem sc__law_parts : FnScope ["_law_h", "_law_letters", "_law_many", "_law_early", "_law_steps", "_law_good", "_law_stand", "_law_low", "_law_letter"] ["_law_h", "_law_letters"] (defScope s__law_parts) := ⟨rfl, rfl, rfl, by decide +kernel, rfl, by decide +kernel, by decide +kernel⟩
theorem sc__law_wrong : FnScope ["_law_k", "_law_row", "_law_stands", "_law_steps", "_law_known", "_law_at", "_law_stand"] ["_law_k", "_law_row", "_law_stands", "_law_steps"] (defScope s__law_wrong) := ⟨rfl, rfl, rfl, by decide +kernel, rfl, by decide +kernel, by decide +kernel⟩
theorem sc__law_due : FnScope ["_law_lines", "_law_rows", "_law_k", "_law_wrong_here", "_law_line", "_law_one"] ["_law_lines"] (defScope s__law_due) := ⟨rfl, rfl, rfl, by decide +kernel, rfl, by decide +kernel, by decide +kernel⟩
theorem sc__law_answer : FnScope ["_law_text", "_law_found", "error"] ["_law_text"] (defScope s__law_answer) := ⟨rfl, rfl, rfl, by decide +kernel, rfl, by decide +kernel, by decide +kernel⟩
theorem sc__law_changed : FnScope ["_law_h", "_law_lines", "_law_odd", "_law_spot", "_law_kind", "_law_row", "_law_k", "_law_line", "_law_more"] ["_law_h", "_law_lines", "_law_odd"] (defScope s__law_changed) := ⟨rfl, rfl, rfl, by decide +kernel, rfl, by decide +kernel, by decide +kernel⟩
theorem sc_law : FnScope ["_law_script", "_law_h", "_law_odd", "_law_turn", "_law_steps", "_law_good", "_law_lines", "_law_k", "_law_change", "_law_some", "_law_due_here", "_law_goal", "_law_text"] ["_law_script"] (defScope s_law) := ⟨rfl, rfl, rfl, by decide +kernel, rfl, by decide +kernel, by decide +kernel⟩
/-- what the top has written -/
structure TxtP (P : Program) (K : PySem.W.Frag) (mg : Str → Option Value) where
  C_MachineError : Addr
  g_MachineError : mg "MachineError" = some (.ref C_MachineError)
  k_MachineError : PySem.W.keepIn K (.ref C_MachineError) = true
  r_MachineError : PySem.W.subIn K (.ref C_MachineError) (.type "BaseException") = some true
  t_MachineError : PySem.W.typeIn K (.ref C_MachineError) = some (.type "type")
  ic_MachineError : PySem.W.isClsIn K C_MachineError = true
  e_MachineError : ExcC K C_MachineError
  C_InvalidText : Addr
  g_InvalidText : mg "InvalidText" = some (.ref C_InvalidText)
  k_InvalidText : PySem.W.keepIn K (.ref C_InvalidText) = true
  r_InvalidText : PySem.W.subIn K (.ref C_InvalidText) (.type "BaseException") = some true
  t_InvalidText : PySem.W.typeIn K (.ref C_InvalidText) = some (.type "type")
  ic_InvalidText : PySem.W.isClsIn K C_InvalidText = true
  e_InvalidText : ExcC K C_InvalidText
  x_InvalidText : OexC K C_InvalidText
  f_InvalidText : XfC K C_InvalidText
  n_InvalidText_line : PySem.W.findIn K (.ref C_InvalidText) "line" = some none
  n_InvalidText_word : PySem.W.findIn K (.ref C_InvalidText) "word" = some none
  z_all : mg "all" = none
  z_bool : mg "bool" = none
  z_enumerate : mg "enumerate" = none
  z_int : mg "int" = none
  z_isinstance : mg "isinstance" = none
  z_len : mg "len" = none
  z_list : mg "list" = none
  z_max : mg "max" = none
  z_min : mg "min" = none
  z_range : mg "range" = none
  z_str : mg "str" = none
  z_super : mg "super" = none
  z_tuple : mg "tuple" = none
  z_zip : mg "zip" = none
  t_MOST_STANDS : Tok
  g_MOST_STANDS : mg "MOST_STANDS" = some (.int 8 t_MOST_STANDS)
  t_MOST_LETTERS : Tok
  g_MOST_LETTERS : mg "MOST_LETTERS" = some (.int 3 t_MOST_LETTERS)
  t_GOOD : Tok
  g_GOOD : mg "GOOD" = some (.str "good" t_GOOD)
  t_BAD : Tok
  g_BAD : mg "BAD" = some (.str "bad" t_BAD)
  C_Machine : Addr
  c_Machine : Cls K C_Machine
  g_Machine : mg "Machine" = some (.ref C_Machine)
  n_Machine__steps : NoAttr K C_Machine "_steps"
  n_Machine__good : NoAttr K C_Machine "_good"
  sb_InvalidText_MachineError : PySem.W.subIn K (.ref C_InvalidText) (.ref C_MachineError) = some true
  sb_InvalidText_InvalidText : PySem.W.subIn K (.ref C_InvalidText) (.ref C_InvalidText) = some true
  a_InvalidText_init : Addr
  fd_InvalidText_init : FuncData
  F_InvalidText_init : FunS P K mg C_InvalidText "__init__" "InvalidText.__init__" s_InvalidText_init a_InvalidText_init fd_InvalidText_init
  b_InvalidText_init : Binds K fd_InvalidText_init ["self", "line", "word"] []
  i_InvalidText : PySem.W.findIn K (.ref C_InvalidText) "__init__" = some (some (.ref a_InvalidText_init))
  t_InvalidText_init : PySem.W.typeIn K (.ref a_InvalidText_init) = some (.type "function")
  a_is_below : Addr
  fd_is_below : FuncData
  F_is_below : Fun K "is_below" "is_below" s_is_below a_is_below fd_is_below
  b_is_below : Binds K fd_is_below ["value", "limit"] []
  g_is_below : mg "is_below" = some (.ref a_is_below)
  a_are_below : Addr
  fd_are_below : FuncData
  F_are_below : Fun K "are_below" "are_below" s_are_below a_are_below fd_are_below
  b_are_below : Binds K fd_are_below ["values", "limit"] []
  g_are_below : mg "are_below" = some (.ref a_are_below)
  a_Machine_init : Addr
  fd_Machine_init : FuncData
  F_Machine_init : Fun K "__init__" "Machine.__init__" s_Machine_init a_Machine_init fd_Machine_init
  b_Machine_init : Binds K fd_Machine_init ["self", "steps", "good"] []
  m_Machine : Mk K C_Machine a_Machine_init
  a_check_steps : Addr
  fd_check_steps : FuncData
  F_check_steps : Fun K "check_steps" "check_steps" s_check_steps a_check_steps fd_check_steps
  b_check_steps : Binds K fd_check_steps ["steps"] []
  g_check_steps : mg "check_steps" = some (.ref a_check_steps)
  a_are_leads : Addr
  fd_are_leads : FuncData
  F_are_leads : Fun K "are_leads" "are_leads" s_are_leads a_are_leads fd_are_leads
  b_are_leads : Binds K fd_are_leads ["leads", "stands"] []
  g_are_leads : mg "are_leads" = some (.ref a_are_leads)
  a_check_good : Addr
  fd_check_good : FuncData
  F_check_good : Fun K "check_good" "check_good" s_check_good a_check_good fd_check_good
  b_check_good : Binds K fd_check_good ["good", "stands"] []
  g_check_good : mg "check_good" = some (.ref a_check_good)
  a_read : Addr
  fd_read : FuncData
  F_read : Fun K "read" "read" s_read a_read fd_read
  b_read : Binds K fd_read ["text"] []
  g_read : mg "read" = some (.ref a_read)
  a_words_of : Addr
  fd_words_of : FuncData
  F_words_of : Fun K "words_of" "words_of" s_words_of a_words_of fd_words_of
  b_words_of : Binds K fd_words_of ["line"] []
  g_words_of : mg "words_of" = some (.ref a_words_of)
  a_check_words : Addr
  fd_check_words : FuncData
  F_check_words : Fun K "check_words" "check_words" s_check_words a_check_words fd_check_words
  b_check_words : Binds K fd_check_words ["rows", "index", "least", "most"] []
  g_check_words : mg "check_words" = some (.ref a_check_words)
  a_words_at : Addr
  fd_words_at : FuncData
  F_words_at : Fun K "words_at" "words_at" s_words_at a_words_at fd_words_at
  b_words_at : Binds K fd_words_at ["place", "stands", "letters"] []
  g_words_at : mg "words_at" = some (.ref a_words_at)
  a__law_mix : Addr
  fd__law_mix : FuncData
  F__law_mix : Fun K "_law_mix" "_law_mix" s__law_mix a__law_mix fd__law_mix
  b__law_mix : Binds K fd__law_mix ["_law_script", "_law_seed"] []
  g__law_mix : mg "_law_mix" = some (.ref a__law_mix)
  a__law_next : Addr
  fd__law_next : FuncData
  F__law_next : Fun K "_law_next" "_law_next" s__law_next a__law_next fd__law_next
  b__law_next : Binds K fd__law_next ["_law_h", "_law_cap"] []
  g__law_next : mg "_law_next" = some (.ref a__law_next)
  a__law_alike : Addr
  fd__law_alike : FuncData
  F__law_alike : Fun K "_law_alike" "_law_alike" s__law_alike a__law_alike fd__law_alike
  b__law_alike : Binds K fd__law_alike ["_law_found", "_law_due_here"] []
  g__law_alike : mg "_law_alike" = some (.ref a__law_alike)
  a__law_pick : Addr
  fd__law_pick : FuncData
  F__law_pick : Fun K "_law_pick" "_law_pick" s__law_pick a__law_pick fd__law_pick
  b__law_pick : Binds K fd__law_pick ["_law_h", "_law_things"] []
  g__law_pick : mg "_law_pick" = some (.ref a__law_pick)
  a__law_parts : Addr
  fd__law_parts : FuncData
  F__law_parts : Fun K "_law_parts" "_law_parts" s__law_parts a__law_parts fd__law_parts
  b__law_parts : Binds K fd__law_parts ["_law_h", "_law_letters"] []
  g__law_parts : mg "_law_parts" = some (.ref a__law_parts)
  a__law_wrong : Addr
  fd__law_wrong : FuncData
  F__law_wrong : Fun K "_law_wrong" "_law_wrong" s__law_wrong a__law_wrong fd__law_wrong
  b__law_wrong : Binds K fd__law_wrong ["_law_k", "_law_row", "_law_stands", "_law_steps"] []
  g__law_wrong : mg "_law_wrong" = some (.ref a__law_wrong)
  a__law_due : Addr
  fd__law_due : FuncData
  F__law_due : Fun K "_law_due" "_law_due" s__law_due a__law_due fd__law_due
  b__law_due : Binds K fd__law_due ["_law_lines"] []
  g__law_due : mg "_law_due" = some (.ref a__law_due)
  a__law_answer : Addr
  fd__law_answer : FuncData
  F__law_answer : Fun K "_law_answer" "_law_answer" s__law_answer a__law_answer fd__law_answer
  b__law_answer : Binds K fd__law_answer ["_law_text"] []
  g__law_answer : mg "_law_answer" = some (.ref a__law_answer)
  a__law_changed : Addr
  fd__law_changed : FuncData
  F__law_changed : Fun K "_law_changed" "_law_changed" s__law_changed a__law_changed fd__law_changed
  b__law_changed : Binds K fd__law_changed ["_law_h", "_law_lines", "_law_odd"] []
  g__law_changed : mg "_law_changed" = some (.ref a__law_changed)
  a_law : Addr
  fd_law : FuncData
  F_law : Fun K "law" "law" s_law a_law fd_law
  b_law : Binds K fd_law ["_law_script"] []
  g_law : mg "law" = some (.ref a_law)
/-! ### what values are -/
/-- a value of a known built-in type -/
inductive Kd (K : PySem.W.Frag) (H : Hp) : V → String → Prop
  | non : Kd K H .non "NoneType"
  | bl (b : Bool) : Kd K H (.bl b) "bool"
  | int (i : Int) : Kd K H (.int i) "int"
  | str (z : Str) : Kd K H (.str z) "str"
  | tup {a : Addr} {xs : List V} (h : SqT K H a xs) : Kd K H (.ref a) "tuple"
  | lst {a : Addr} {xs : List V} (h : H a = some (.lst xs)) : Kd K H (.ref a) "list"
theorem tyx_t {K : PySem.W.Frag} {H : Hp} {a : Addr} {xs : List V} (h : SqT K H a xs) : TyX K H (.ref a) (.type "tuple") := by
  rcases h with (h | ⟨o, h⟩) | ⟨o, its, n, h, c, _⟩
  · exact .base (.tup h)
  · exact .fTuple h
  · exact .kTuple h c
theorem Kd.ty {K : PySem.W.Frag} {H : Hp} {x : V} {t : String} (k : Kd K H x t) : TyX K H x (.type t) := by
  cases k with
  | non => exact .base .non
  | bl b => exact .base (.bl b)
  | int i => exact .base (.int i)
  | str z => exact .base (.str z)
  | tup h => exact tyx_t h
  | lst h => exact .base (.lst h)
theorem kb_ii : kitB "int" "int" = some true := by decide +kernel
theorem kb_bi : kitB "bool" "int" = some true := by decide +kernel
theorem kb_ni : kitB "NoneType" "int" = some false := by decide +kernel
theorem kb_si : kitB "str" "int" = some false := by decide +kernel
theorem kb_ti : kitB "tuple" "int" = some false := by decide +kernel
theorem kb_li : kitB "list" "int" = some false := by decide +kernel
theorem kb_ib : kitB "int" "bool" = some false := by decide +kernel
theorem kb_bb : kitB "bool" "bool" = some true := by decide +kernel
theorem kb_nt : kitB "NoneType" "tuple" = some false := by decide +kernel
theorem kb_bt : kitB "bool" "tuple" = some false := by decide +kernel
theorem kb_it : kitB "int" "tuple" = some false := by decide +kernel
theorem kb_st : kitB "str" "tuple" = some false := by decide +kernel
theorem kb_tt : kitB "tuple" "tuple" = some true := by decide +kernel
theorem kb_lt : kitB "list" "tuple" = some false := by decide +kernel
theorem kb_nl : kitB "NoneType" "list" = some false := by decide +kernel
theorem kb_bl : kitB "bool" "list" = some false := by decide +kernel
theorem kb_il : kitB "int" "list" = some false := by decide +kernel
theorem kb_sl : kitB "str" "list" = some false := by decide +kernel
theorem kb_tl : kitB "tuple" "list" = some false := by decide +kernel
theorem kb_ll : kitB "list" "list" = some true := by decide +kernel
theorem kb_ns : kitB "NoneType" "str" = some false := by decide +kernel
theorem kb_bs : kitB "bool" "str" = some false := by decide +kernel
theorem kb_is : kitB "int" "str" = some false := by decide +kernel
theorem kb_ss : kitB "str" "str" = some true := by decide +kernel
theorem kb_ts : kitB "tuple" "str" = some false := by decide +kernel
theorem kb_ls : kitB "list" "str" = some false := by decide +kernel
theorem st0 {t : TS} {D : Ends} {σ σ' : St} {H : Hp} (e : σ = σ') (h : t D σ' H) : t D σ H := by
  rw [e]
  exact h
/-- whether a value is an integer from 0 on and below a limit -/
def below : V → Int → Bool
  | .int i, n => decide (0 ≤ i) && decide (i < n)
  | _, _ => false
theorem below_int (i n : Int) : below (.int i) n = (decide (0 ≤ i) && decide (i < n)) := rfl
def spBelow (K : PySem.W.Frag) : Sp := fun vs H Q _ => ∃ (x : V) (n : Int) (t : String), vs = [x, .int n] ∧ Kd K H x t ∧ Q (.bl (below x n)) H
/-! ### tuples of ints, tuples of such, machines -/
def IntsT (K : PySem.W.Frag) (H : Hp) (v : V) (ns : List Int) : Prop := ∃ a, v = .ref a ∧ SqT K H a (ns.map V.int)
def RowsT (K : PySem.W.Frag) (H : Hp) (v : V) (rows : List (List Int)) : Prop :=
  ∃ a xs, v = .ref a ∧ SqT K H a xs ∧ xs.length = rows.length ∧ ∀ (i : Nat) (x : V) (r : List Int), xs[i]? = some x → rows[i]? = some r → IntsT K H x r
theorem IntsT.nl {K : PySem.W.Frag} {H H' : Hp} {v : V} {ns : List Int} (e : NL H H') (h : IntsT K H v ns) : IntsT K H' v ns := by
  obtain ⟨a, rfl, h⟩ := h
  exact ⟨a, rfl, e.t h⟩
theorem RowsT.nl {K : PySem.W.Frag} {H H' : Hp} {v : V} {rows : List (List Int)} (e : NL H H') (h : RowsT K H v rows) : RowsT K H' v rows := by
  obtain ⟨a, xs, rfl, h, l, p⟩ := h
  exact ⟨a, xs, rfl, e.t h, l, fun i x r h1 h2 => (p i x r h1 h2).nl e⟩
/-- a machine of L letters is as the document asks -/
structure OkM (L : Nat) (rows : List (List Int)) (good : List Int) : Prop where
  n1 : 1 ≤ rows.length
  n8 : rows.length ≤ 8
  l1 : 1 ≤ L
  l3 : L ≤ 3
  row : ∀ r ∈ rows, r.length = L ∧ ∀ z ∈ r, 0 ≤ z ∧ z < (rows.length : Int)
  gd : ∀ z ∈ good, 0 ≤ z ∧ z < (rows.length : Int)
  asc : good.Pairwise (· < ·)
theorem OkM.gl {L : Nat} {rows : List (List Int)} {good : List Int} (o : OkM L rows good) : good.length ≤ 8 := by
  have h1 : ∀ (l : List Int) (m : Int), l.Pairwise (· < ·) → (∀ z ∈ l, m ≤ z ∧ z < (rows.length : Int)) → (l.length : Int) ≤ (rows.length : Int) - m ∨ l = [] := by
    intro l
    induction l with
    | nil => intro m _ _; exact .inr rfl
    | cons x r ih =>
      intro m hp hb
      refine .inl ?_
      have hx := hb x List.mem_cons_self
      have hp' := List.pairwise_cons.mp hp
      rcases ih (x + 1) hp'.2 (fun z hz => ⟨by have := hp'.1 z hz; omega, (hb z (List.mem_cons_of_mem _ hz)).2⟩) with h | h
      · rw [List.length_cons]
        omega
      · subst h
        show ((0 + 1 : Nat) : Int) ≤ _
        omega
  have := o.n8
  rcases h1 good 0 o.asc o.gd with h | h
  · omega
  · rw [h]
    exact Nat.zero_le _
/-- the object: its fields in the order in which they are stored -/
def mflds (vs vg : V) : List (Str × V) := putF "_good" vg (putF "_steps" vs [])
theorem mf_ne : ¬ (("_steps" : Str) = "_good") := by decide +kernel
theorem mf_steps (vs vg : V) : (mflds vs vg).lookup ("_steps" : Str) = some vs := by
  unfold mflds
  rw [lookup_putF, if_neg mf_ne, lookup_putF, if_pos rfl]
theorem mf_good (vs vg : V) : (mflds vs vg).lookup ("_good" : Str) = some vg := by
  unfold mflds
  rw [lookup_putF, if_pos rfl]
structure MachAt (C : Addr) (K : PySem.W.Frag) (H : Hp) (v : V) (rows : List (List Int)) (good : List Int) : Prop where
  ex : ∃ a dx vs vg, v = .ref a ∧ H a = some (.ins C dx (mflds vs vg)) ∧ RowsT K H vs rows ∧ IntsT K H vg good
theorem MachAt.nl {C : Addr} {K : PySem.W.Frag} {H H' : Hp} {v : V} {rows : List (List Int)} {good : List Int} (e : NL H H') (h : MachAt C K H v rows good) : MachAt C K H' v rows good := by
  obtain ⟨a, dx, vs, vg, rfl, h, r, g⟩ := h.ex
  exact ⟨a, dx, vs, vg, rfl, e.ins h, r.nl e, g.nl e⟩
/-! ### comprehensions whose elements are plain -/
section
variable {K : PySem.W.Frag} {a : Addr} {xs ys : List V} {g : TG} {te : TE} {vs : List Nat} {σ σw : St} {H : Hp} {QD : Addr → Hp → Prop} {tl : TE}
/-- over a tuple, without a test; the elements keep what stands -/
theorem comp_t {a : Addr} (hw : wipe σ vs = σw) (hx : SqT K H a xs) (hl : xs.length ≤ 1000) (hy : ys.length = xs.length)
    (he : ∀ (i : Nat) (x y : V) (H2 : Hp) (R : VK), xs[i]? = some x → ys[i]? = some y → Same H H2 → (∀ H4, Same H2 H4 → R y H4) → g x σw H2 fun σ2 H3 => wipe σ2 vs = σw ∧ te σ2 H3 R)
    (q : ∀ D H', H D = none → Same H H' → H' D = some (.lst ys) → QD D H') :
    (∃ a', V.ref a = .ref a' ∧ (∃ xs, SqT K H a' xs) ∧ ∀ D, H D = none → ∃ W : Nat → Nat → Hp → Prop, (∃ m, W 0 m (upd H D (.lst []))) ∧ ∀ i m H, W i m H →
      ((Itt K a').stop i H ∧ QD D H) ∨ ((Itt K a').go i H ∧ ∃ Nx : Hp → Prop, (∀ H', Nx H' → ∃ m', m' < m ∧ W (i + 1) m' H') ∧ ∀ x H', (Itt K a').yld i H x H' → g x (wipe σ vs) H' fun σ2 H2 => wipe σ2 vs = wipe σ vs ∧ tYes σ2 H2 fun b H3 =>
        if b = true then te σ2 H3 fun y H4 => ∃ acc, H4 D = some (.lst acc) ∧ acc.length < sizeLine ∧ Nx (upd H4 D (.lst (acc ++ [y]))) else Nx H3)) := by
  refine ⟨a, rfl, ⟨xs, hx⟩, fun D hD => ?_⟩
  refine lc_tup (K := K) (a := a) (xs := xs) (fun i H' => Same H H' ∧ H' D = some (.lst (ys.take i))) ⟨same_upd hD, upd_same⟩ (fun i H' _ h => h.1.t hx) (fun i x H2 hi h => ?_) fun H' h => ?_
  · rw [hw]
    have hil : i < xs.length := (List.getElem?_eq_some_iff.mp hi).1
    have hy' : ys[i]? = some ys[i] := List.getElem?_eq_getElem (by omega)
    obtain ⟨hs, hd⟩ := h
    refine he i x ys[i] H2 _ hi hy' hs fun H4 s4 => ?_
    refine ⟨ys.take i, s4 _ _ hd, ?_, ?_, ?_⟩
    · rw [List.length_take]
      exact Nat.lt_of_le_of_lt (Nat.min_le_left _ _) (small1000 (by omega))
    · intro b o hb
      have nb : b ≠ D := ne_of_none hb hD
      rw [upd_ne nb]
      exact s4 _ _ (hs _ _ hb)
    · rw [upd_same, List.take_add_one, hy']
      rfl
  · rw [← hy, List.take_length] at h
    exact q D H' hD h.1 h.2
end
theorem all_bl {xs : List V} {n : Int} : ((xs.map fun x => below x n).all id) = xs.all fun x => below x n := by
  rw [List.all_map]
  rfl
theorem at_int {α : Type} {xs : List α} {z : Int} {v : α} (h0 : 0 ≤ z) (h : xs[z.toNat]? = some v) : atI xs z = some v := by
  have e : z = ((z.toNat : Nat) : Int) := by omega
  rw [e]
  exact atI_nat h
theorem getD_of {α : Type} {l : List α} {i : Nat} {d x : α} (h : l[i]? = some x) : l.getD i d = x := by
  rw [List.getD_eq_getElem?_getD, h]
  rfl
/-! ### texts: split, join, what their signs are -/
theorem tl_sp : TL.tl (" " : Str) = [32] := by decide +kernel
theorem tl_nl : TL.tl ("\n" : Str) = [10] := by decide +kernel
theorem str_ext {x y : Str} (h : TL.tl x = TL.tl y) : x = y := by
  cases x with
  | mk a =>
    cases y with
    | mk b =>
      have e : a.toList = b.toList := h
      rw [Array.toList_inj.mp e]
/-- the pieces' signs are the whole's; the pieces' lengths -/
theorem spl_all : ∀ (l acc : List Nat), (∀ w ∈ TL.spl [32] 0 acc l, ∀ c ∈ w, c ∈ acc ∨ c ∈ l) ∧ ((TL.spl [32] 0 acc l).map List.length).sum + (TL.spl [32] 0 acc l).length = acc.length + l.length + 1
  | [], acc => by
    rw [TL.spl_nil]
    refine ⟨fun w hw c hc => ?_, by simp⟩
    rw [List.mem_singleton.mp hw] at hc
    exact .inl hc
  | c :: r, acc => by
    by_cases h : c = 32
    · subst h
      rw [TL.spl_hit (by rfl)]
      obtain ⟨h1, h2⟩ := spl_all r []
      have e0 : ([32] : List Nat).length - 1 = 0 := rfl
      rw [e0]
      refine ⟨fun w hw c hc => ?_, ?_⟩
      · rcases List.mem_cons.mp hw with e | hw
        · rw [e] at hc
          exact .inl hc
        · rcases h1 w hw c hc with e | e
          · cases e
          · exact .inr (List.mem_cons_of_mem _ e)
      · simp only [List.map_cons, List.sum_cons, List.length_cons, List.length_nil] at h2 ⊢
        omega
    · rw [TL.spl_miss (TL.pre_of_head _ _ h)]
      obtain ⟨h1, h2⟩ := spl_all r (acc ++ [c])
      refine ⟨fun w hw d hd => ?_, ?_⟩
      · rcases h1 w hw d hd with e | e
        · rcases List.mem_append.mp e with e | e
          · exact .inl e
          · rw [List.mem_singleton.mp e]
            exact .inr List.mem_cons_self
        · exact .inr (List.mem_cons_of_mem _ e)
      · rw [List.length_append] at h2
        simp only [List.length_cons, List.length_nil] at h2 ⊢
        omega
def splS (z : Str) : List Str := Txt.split z (" " : Str)
theorem kind_sp (x : Str) : ¬ Builtin.Str.strKind x < Builtin.Str.strKind (" " : Str) := by
  have e : Builtin.Str.strKind (" " : Str) = 1 := by decide +kernel
  rw [e]
  unfold Builtin.Str.strKind
  split
  · omega
  · split <;> omega
theorem splS_map (z : Str) : (splS z).map TL.tl = TL.spl [32] 0 [] (TL.tl z) := by
  have := TL.split_spl z (" " : Str) (by rw [tl_sp]; exact List.cons_ne_nil _ _) (kind_sp z)
  rw [tl_sp] at this
  exact this
theorem splS_mem {z w : Str} (hw : w ∈ splS z) : ∀ c ∈ TL.tl w, c ∈ TL.tl z := by
  intro c hc
  have h := (spl_all (TL.tl z) []).1 (TL.tl w) (by rw [← splS_map]; exact List.mem_map_of_mem hw) c hc
  rcases h with e | e
  · cases e
  · exact e
theorem splS_sum (z : Str) : ((splS z).map (·.length)).sum + (splS z).length = z.length + 1 := by
  have h := (spl_all (TL.tl z) []).2
  rw [← splS_map, List.map_map, List.length_map] at h
  have e : (List.length ∘ TL.tl) = fun x : Str => x.length := by
    funext x
    exact (TL.len_tl x).symm
  rw [e, ← TL.len_tl] at h
  simp only [List.length_nil] at h
  omega
theorem splS_len (z : Str) : (splS z).length ≤ z.length + 1 := by
  have := splS_sum z
  omega
theorem joinL_all (S : List Nat) : ∀ ps : List (List Nat), (∀ c ∈ TL.joinL S ps, c ∈ S ∨ ∃ p ∈ ps, c ∈ p) ∧ (TL.joinL S ps).length ≤ (ps.map List.length).sum + (ps.length - 1) * S.length
  | [] => ⟨fun c hc => (by cases hc), by simp [TL.joinL]⟩
  | [p] => ⟨fun c hc => .inr ⟨p, List.mem_cons_self, hc⟩, by simp [TL.joinL]⟩
  | p :: q :: r => by
    obtain ⟨h1, h2⟩ := joinL_all S (q :: r)
    have e : TL.joinL S (p :: q :: r) = p ++ S ++ TL.joinL S (q :: r) := by
      first
      | rfl
      | (rw [TL.joinL]; simp [List.append_assoc])
    rw [e]
    refine ⟨fun c hc => ?_, ?_⟩
    · rcases List.mem_append.mp hc with hc | hc
      · rcases List.mem_append.mp hc with hc | hc
        · exact .inr ⟨p, List.mem_cons_self, hc⟩
        · exact .inl hc
      · rcases h1 c hc with e | ⟨x, hx, e⟩
        · exact .inl e
        · exact .inr ⟨x, List.mem_cons_of_mem _ hx, e⟩
    · have e1 : ((p :: q :: r).length - 1) = ((q :: r).length - 1) + 1 := by simp
      rw [e1, Nat.add_mul, List.length_append, List.length_append, List.map_cons, List.sum_cons]
      omega
theorem join_tl (y : Str) (ps : List Str) : TL.tl (Txt.join y ps) = TL.joinL (TL.tl y) (ps.map TL.tl) := by
  rw [TL.join_eq, TL.tl_join]
theorem len_map (ps : List Str) : ((ps.map TL.tl).map List.length) = ps.map (·.length) := by
  rw [List.map_map]
  exact List.map_congr_left fun x _ => (TL.len_tl x).symm
theorem join_len (y : Str) (ps : List Str) : (Txt.join y ps).length ≤ (ps.map (·.length)).sum + (ps.length - 1) * y.length := by
  have h := (joinL_all (TL.tl y) (ps.map TL.tl)).2
  rw [← join_tl, len_map, List.length_map, ← TL.len_tl, ← TL.len_tl] at h
  exact h
theorem join_mem {y : Str} {ps : List Str} {c : Nat} (h : c ∈ TL.tl (Txt.join y ps)) : c ∈ TL.tl y ∨ ∃ p ∈ ps, c ∈ TL.tl p := by
  rw [join_tl] at h
  rcases (joinL_all (TL.tl y) (ps.map TL.tl)).1 c h with e | ⟨p, hp, e⟩
  · exact .inl e
  · obtain ⟨q, hq, rfl⟩ := List.mem_map.mp hp
    exact .inr ⟨q, hq, e⟩
/-- a line: no newline in it, of at most so many signs -/
structure Ln (M : Nat) (z : Str) : Prop where
  nn : ¬ 10 ∈ TL.tl z
  ln : z.length ≤ M
  sm : ∀ c ∈ TL.tl z, c < 256
theorem Ln.mono {M N : Nat} {z : Str} (h : Ln M z) (l : M ≤ N) : Ln N z := ⟨h.nn, Nat.le_trans h.ln l, h.sm⟩
theorem Ln.ok {M : Nat} {z : Str} (h : ∀ c ∈ TL.tl z, c < 256) : PyData.canLay0 (.str z) = true := by
  have e : PyData.strOk z = true := by
    unfold PyData.strOk
    rw [← Array.all_toList, List.all_eq_true]
    intro c hc
    have := h c hc
    exact decide_eq_true (by omega)
  simp [PyData.canLay0, e]
theorem sum_sub : ∀ (ws : List Str) (k : Nat), ((ws.take k).map (·.length)).sum + (ws.take k).length + (((ws.drop k).map (·.length)).sum + (ws.drop k).length) = (ws.map (·.length)).sum + ws.length := by
  intro ws k
  conv => rhs; rw [← List.take_append_drop k ws]
  rw [List.map_append, List.sum_append, List.length_append]
  omega
theorem drop_sum : ∀ (ws : List Str) (k : Nat), ((ws.drop k).map (·.length)).sum + (ws.drop k).length ≤ (ws.map (·.length)).sum + ws.length := by
  intro ws k
  have := sum_sub ws k
  omega
/-- words of a line put together anew, one more among them -/
theorem Ln.join {M : Nat} {ws : List Str} (h : ∀ w ∈ ws, ¬ 10 ∈ TL.tl w) (hsm : ∀ w ∈ ws, ∀ c ∈ TL.tl w, c < 256) (hs : (ws.map (·.length)).sum + ws.length ≤ M + 1) : Ln M (Txt.join (" " : Str) ws) := by
  refine ⟨fun hc => ?_, ?_, fun c hc => ?_⟩
  · rcases join_mem hc with e | ⟨p, hp, e⟩
    · rw [tl_sp] at e
      exact absurd (List.mem_singleton.mp e) (by decide)
    · exact h p hp e
  · have := join_len (" " : Str) ws
    have e : (" " : Str).length = 1 := by decide +kernel
    rw [e] at this
    cases ws with
    | nil => exact Nat.le_trans this (Nat.zero_le _)
    | cons w r =>
      simp only [List.length_cons] at this hs
      omega
  · rcases join_mem hc with e | ⟨p, hp, e⟩
    · rw [tl_sp] at e
      rw [List.mem_singleton.mp e]
      decide
    · exact hsm p hp c e
theorem splS_sm {M : Nat} {z : Str} (h : Ln M z) : ∀ w ∈ splS z, ∀ c ∈ TL.tl w, c < 256 := fun w hw c hc => h.sm c (splS_mem hw c hc)
theorem splS_nn {M : Nat} {z : Str} (h : Ln M z) : ∀ w ∈ splS z, ¬ 10 ∈ TL.tl w := fun w hw hc => h.nn (splS_mem hw 10 hc)
/-- lines, joined and split again -/
theorem lines_back {M : Nat} {ls : List Str} (hn : ls ≠ []) (h : ∀ z ∈ ls, Ln M z) : Txt.split (Txt.join ("\n" : Str) ls) ("\n" : Str) = ls :=
  TL.split_join (s := 10) (S := []) tl_nl (by decide +kernel) hn fun p hp => (h p hp).nn
theorem lines_len {M : Nat} {ls : List Str} (h : ∀ z ∈ ls, Ln M z) : (ls.map (·.length)).sum ≤ ls.length * M := by
  induction ls with
  | nil => simp
  | cons z r ih =>
    have h1 := ih fun x hx => h x (List.mem_cons_of_mem _ hx)
    have h2 := (h z List.mem_cons_self).ln
    rw [List.map_cons, List.sum_cons, List.length_cons, Nat.add_mul]
    omega
/-- the words of a line -/
def wordsOf (z : Str) : List Str := (splS z).filter fun w => !decide (w = ("" : Str))
theorem words_v (z : Str) : ((splS z).map V.str).filter (fun x => !decide (x = V.str ("" : Str))) = (wordsOf z).map V.str := by
  unfold wordsOf
  rw [List.filter_map]
  congr 1
  refine List.filter_congr fun w _ => ?_
  show (!decide (V.str w = V.str "")) = !decide (w = "")
  by_cases h : w = ("" : Str)
  · subst h
    rw [decide_eq_true rfl, decide_eq_true rfl]
  · rw [decide_eq_false h, decide_eq_false fun e => h (V.str.inj e)]
theorem words_len (z : Str) : (wordsOf z).length ≤ z.length + 1 := Nat.le_trans (List.length_filter_le _ _) (splS_len z)
/-! ### the words that can stand, the first that can't -/
def known (n : Nat) : List Str := (List.range n).map fun (i : Nat) => Str.ofString (toString ((i : Nat) : Int))
def wordsAt (p n m : Nat) : List Str := if p = 0 then ["good", "bad"] else if p ≤ m then known n else []
def scan (n m : Nat) : Nat → List Str → Option Nat
  | _, [] => none
  | p, w :: r => if (wordsAt p n m).contains w = true then scan n m (p + 1) r else some p
/-- the first word that can't stand in a line, counted from 1 -/
def wr (n l m : Nat) (ws : List Str) : Option Nat :=
  match scan n m 0 ws with
  | some p => some (p + 1)
  | none => if ws.length < 1 + l then some (ws.length + 1) else none
def stepsOf (rows : List (List Str)) (k : Nat) : Nat := if k = 0 then 0 else (rows.getD 0 []).length - 1
def fk (rows : List (List Str)) (k : Nat) : Option Nat :=
  if 8 ≤ k then some 1 else wr (min rows.length 8) (max 1 (stepsOf rows k)) (if 0 < stepsOf rows k then stepsOf rows k else 3) (rows.getD k [])
/-- the first fault of rows of words -/
def flt (rows : List (List Str)) : Option (Nat × Nat) := (List.range rows.length).findSome? fun k => (fk rows k).map fun w => (k + 1, w)
theorem flt_some {rows : List (List Str)} {k w : Nat} (hk : k < rows.length) (h : fk rows k = some w) (hn : ∀ j, j < k → fk rows j = none) : flt rows = some (k + 1, w) := by
  have key : ∀ n, k < n → (List.range n).findSome? (fun k => (fk rows k).map fun w => (k + 1, w)) = some (k + 1, w) := by
    intro n
    induction n with
    | zero => intro z; omega
    | succ n ih =>
      intro hkn
      rw [List.range_succ, List.findSome?_append]
      by_cases e : k < n
      · rw [ih e]
        rfl
      · have : k = n := by omega
        subst this
        have hz : (List.range k).findSome? (fun k => (fk rows k).map fun w => (k + 1, w)) = none := by
          rw [List.findSome?_eq_none_iff]
          intro j hj
          rw [hn j (List.mem_range.mp hj)]
          rfl
        rw [hz, Option.none_or, List.findSome?_cons, h]
        rfl
  exact key _ hk
theorem flt_none {rows : List (List Str)} (h : ∀ j, j < rows.length → fk rows j = none) : flt rows = none := by
  unfold flt
  rw [List.findSome?_eq_none_iff]
  intro j hj
  rw [h j (List.mem_range.mp hj)]
  rfl
theorem units65 {k : Nat} {A : Around} (r : Room k A) : A.units + 65 < cLine := by
  have := r.un
  omega
/-! ### any comprehension: a test or none, elements that are described by what stands -/
theorem pi_seqN {X : Cx} {K : PySem.W.Frag} {tg l : Expr} {tl : TE} (hk : X.K = K) (hl : PE X l tl) : PI X tg l (iSeq K tl) := by
  subst hk
  exact pi_seq hl
theorem walk_list {K : PySem.W.Frag} {a : Addr} {xs : List V} : Walk (Itl K a) xs.length (fun H => SqL K H a xs) (fun i H x H' => H' = H ∧ xs[i]? = some x) :=
  ⟨fun i H hi h => ⟨xs, xs[i], h, List.getElem?_eq_getElem hi⟩, fun H h => ⟨xs, h, Nat.le_refl _⟩, fun i H x H' _ h y => ⟨y.1, y.2 xs h⟩⟩
theorem walk_tup {K : PySem.W.Frag} {a : Addr} {xs : List V} : Walk (Itt K a) xs.length (fun H => SqT K H a xs) (fun i H x H' => H' = H ∧ xs[i]? = some x) :=
  ⟨fun i H hi h => ⟨xs, xs[i], h, List.getElem?_eq_getElem hi⟩, fun H h => ⟨xs, h, Nat.le_refl _⟩, fun i H x H' _ h y => ⟨y.1, y.2 xs h⟩⟩
theorem walk_rng {lo : Int} {n : Nat} : Walk (Itr lo n) n (fun _ => True) (fun i H x H' => H' = H ∧ x = .int (lo + (i : Nat))) :=
  ⟨fun _ _ hi _ => hi, fun _ _ => Nat.le_refl _, fun _ _ _ _ _ _ y => y⟩
theorem walk_enumL {K : PySem.W.Frag} {a : Addr} {xs : List V} : Walk (Ite K a) xs.length (fun H => SqL K H a xs) (YPair (fun i => some (.int (i : Nat))) (fun i => xs[i]?)) := by
  refine ⟨fun i H hi h => ⟨xs, xs[i], h, List.getElem?_eq_getElem hi⟩, fun H h => ⟨xs, h, Nat.le_refl _⟩, fun i H x H' hi h y => ?_⟩
  obtain ⟨T, x, e1, e2, e3, e4⟩ := y
  exact ⟨T, .int (i : Nat), x, e1, e2, e3, rfl, e4 xs h⟩
theorem but_of_same {S : List Addr} {H H' : Hp} (s : Same H H') : But S H H' := fun b o h _ => s b o h
theorem but1_upd {D : Addr} {H : Hp} {o : HO} : But [D] H (upd H D o) := fun b x e n => by
  rw [upd_ne fun e => n (List.mem_singleton.mpr e)]
  exact e
theorem comp_g {J : It} {n : Nat} {G : Hp → Prop} {Y : Nat → Hp → V → Hp → Prop} (wk : Walk J n G Y) {g : TG} {tt : TT} {te : TE} {vs : List Nat} {σ σw : St} {H : Hp} {QD : Addr → Hp → Prop}
    (P : Addr → Nat → V → Hp → Prop) (keep : Nat → Bool) (hP : ∀ D i v H H', But [D] H H' → P D i v H → P D i v H') (hw : wipe σ vs = σw) (hn : n ≤ 1000) (hG : ∀ H', Same H H' → G H')
    (he : ∀ (D : Addr) (i : Nat) (x : V) (H2 H3 : Hp) (R : L2.St → Bool → Hp → Prop), i < n → H D = none → (∃ acc, H2 D = some (.lst acc)) → Same H H2 → Y i H2 x H3 →
      (∀ σ2 b H4, b = keep i → Same H2 H4 → (keep i = true → ∀ Q2 : VK, (∀ v H5, Same H4 H5 → P D i v H5 → Q2 v H5) → te σ2 H4 Q2) → R σ2 b H4) → g x σw H3 fun σ2 H4 => wipe σ2 vs = σw ∧ tt σ2 H4 (R σ2))
    (q : ∀ D H' ys, H D = none → Same H H' → H' D = some (.lst ys) → ys.length = ((List.range n).filter keep).length → (∀ (j i : Nat) (v : V), ((List.range n).filter keep)[j]? = some i → ys[j]? = some v → P D i v H') → QD D H') :
    ∀ D, H D = none → ∃ W : Nat → Nat → Hp → Prop, (∃ m, W 0 m (upd H D (.lst []))) ∧ ∀ i m H, W i m H →
      (J.stop i H ∧ QD D H) ∨ (J.go i H ∧ ∃ Nx : Hp → Prop, (∀ H', Nx H' → ∃ m', m' < m ∧ W (i + 1) m' H') ∧ ∀ x H', J.yld i H x H' → g x (wipe σ vs) H' fun σ2 H2 => wipe σ2 vs = wipe σ vs ∧ tt σ2 H2 fun b H3 =>
        if b = true then te σ2 H3 fun y H4 => ∃ acc, H4 D = some (.lst acc) ∧ acc.length < sizeLine ∧ Nx (upd H4 D (.lst (acc ++ [y]))) else Nx H3) := by
  intro D hD
  refine lc_it wk (fun i H' => Same H H' ∧ ∃ ys, H' D = some (.lst ys) ∧ ys.length = ((List.range i).filter keep).length ∧ ∀ (j k : Nat) (v : V), ((List.range i).filter keep)[j]? = some k → ys[j]? = some v → P D k v H')
    ⟨same_upd hD, [], upd_same, rfl, fun j k v h1 _ => by cases h1⟩ (fun i H' _ h => hG _ h.1) (fun i x H2 H3 hi h hyi => ?_) fun H' h => ?_
  · rw [hw]
    obtain ⟨hs, ys, hd, hl, hp⟩ := h
    refine he D i x H2 H3 (fun σ2 b H3 => if b = true then te σ2 H3 fun y H4 => ∃ acc, H4 D = some (.lst acc) ∧ acc.length < sizeLine ∧ Same H (upd H4 D (.lst (acc ++ [y]))) ∧ ∃ ys, upd H4 D (.lst (acc ++ [y])) D = some (.lst ys) ∧ ys.length = ((List.range (i + 1)).filter keep).length ∧ ∀ (j k : Nat) (v : V), ((List.range (i + 1)).filter keep)[j]? = some k → ys[j]? = some v → P D k v (upd H4 D (.lst (acc ++ [y])))
      else Same H H3 ∧ ∃ ys, H3 D = some (.lst ys) ∧ ys.length = ((List.range (i + 1)).filter keep).length ∧ ∀ (j k : Nat) (v : V), ((List.range (i + 1)).filter keep)[j]? = some k → ys[j]? = some v → P D k v H3) hi hD ⟨ys, hd⟩ hs hyi fun σ2 b H4 hb s4 ht => ?_
    subst hb
    rw [List.range_succ, List.filter_append]
    cases hk : keep i with
    | true =>
      have e1 : [i].filter keep = [i] := by rw [List.filter_cons_of_pos hk]; rfl
      rw [e1]
      refine iteT (ht hk _ fun v H5 s5 hv => ⟨ys, s5 _ _ (s4 _ _ hd), ?_, ?_, ys ++ [v], upd_same, ?_, ?_⟩)
      · rw [hl]
        refine Nat.lt_of_le_of_lt (List.length_filter_le _ _) ?_
        rw [List.length_range]
        exact small1000 (by omega)
      · intro b o hb
        rw [upd_ne (ne_of_none hb hD)]
        exact s5 _ _ (s4 _ _ (hs _ _ hb))
      · rw [List.length_append, List.length_append, hl]
        rfl
      · intro j k v' hj hv'
        by_cases hjl : j < ys.length
        · rw [List.getElem?_append_left (by omega)] at hj
          rw [List.getElem?_append_left hjl] at hv'
          exact hP D k v' _ _ but1_upd (hP D k v' _ _ (but_of_same (s4.trans s5)) (hp j k v' hj hv'))
        · rw [List.getElem?_append_right (by omega)] at hj
          rw [List.getElem?_append_right (by omega)] at hv'
          have hz : j - ys.length = 0 := by
            have := (List.getElem?_eq_some_iff.mp hv').1
            simp only [List.length_cons, List.length_nil] at this
            omega
          rw [hz] at hv'
          rw [show j - ((List.range i).filter keep).length = 0 by omega] at hj
          cases hv'
          cases hj
          exact hP D _ _ _ _ but1_upd hv
    | false =>
      have e1 : [i].filter keep = [] := by rw [List.filter_cons_of_neg (by rw [hk]; exact Bool.false_ne_true)]; rfl
      rw [e1, List.append_nil]
      exact iteF ⟨hs.trans s4, ys, s4 _ _ hd, hl, fun j k v h1 h2 => hP D k v _ _ (but_of_same s4) (hp j k v h1 h2)⟩
  · obtain ⟨hs, ys, hd, hl, hp⟩ := h
    exact q D H' ys hD hs hd hl hp
/-- without a test, plain elements -/
theorem comp_p {J : It} {n : Nat} {G : Hp → Prop} {Y : Nat → Hp → V → Hp → Prop} (wk : Walk J n G Y) {g : TG} {te : TE} {vs : List Nat} {σ σw : St} {H : Hp} {QD : Addr → Hp → Prop} (ys : List V) (hy : ys.length = n) (hw : wipe σ vs = σw) (hn : n ≤ 1000) (hG : ∀ H', Same H H' → G H')
    (he : ∀ (i : Nat) (x y : V) (H2 H3 : Hp) (R : VK), i < n → ys[i]? = some y → Same H H2 → Y i H2 x H3 → (∀ H4, Same H2 H4 → R y H4) → g x σw H3 fun σ2 H4 => wipe σ2 vs = σw ∧ te σ2 H4 R)
    (q : ∀ D H', H D = none → Same H H' → H' D = some (.lst ys) → QD D H') :
    ∀ D, H D = none → ∃ W : Nat → Nat → Hp → Prop, (∃ m, W 0 m (upd H D (.lst []))) ∧ ∀ i m H, W i m H →
      (J.stop i H ∧ QD D H) ∨ (J.go i H ∧ ∃ Nx : Hp → Prop, (∀ H', Nx H' → ∃ m', m' < m ∧ W (i + 1) m' H') ∧ ∀ x H', J.yld i H x H' → g x (wipe σ vs) H' fun σ2 H2 => wipe σ2 vs = wipe σ vs ∧ tYes σ2 H2 fun b H3 =>
        if b = true then te σ2 H3 fun y H4 => ∃ acc, H4 D = some (.lst acc) ∧ acc.length < sizeLine ∧ Nx (upd H4 D (.lst (acc ++ [y]))) else Nx H3) :=
  comp_w wk hw hn hy hG he q
/-- the kept items of a list -/
theorem kept_eq {α : Type} (xs : List α) (pr : α → Bool) (ys : List α) (hl : ys.length = ((List.range xs.length).filter fun i => (xs[i]?.map pr).getD false).length)
    (h : ∀ (j i : Nat) (v : α), ((List.range xs.length).filter fun i => (xs[i]?.map pr).getD false)[j]? = some i → ys[j]? = some v → xs[i]? = some v) : ys = xs.filter pr := by
  have key : ∀ (xs : List α) (is : List Nat), (∀ i ∈ is, ∃ x, xs[i]? = some x) → ∀ ys : List α, ys.length = is.length → (∀ (j i : Nat) (v : α), is[j]? = some i → ys[j]? = some v → xs[i]? = some v) → ys = is.filterMap fun i => xs[i]? := by
    intro xs is
    induction is with
    | nil =>
      intro _ ys hl _
      rw [List.eq_nil_of_length_eq_zero hl]
      rfl
    | cons i is ih =>
      intro hx ys hl hh
      cases ys with
      | nil => cases hl
      | cons y ys =>
        obtain ⟨x, hx0⟩ := hx i List.mem_cons_self
        have h0 := hh 0 i y rfl rfl
        rw [List.filterMap_cons, h0, ← ih (fun k hk => hx k (List.mem_cons_of_mem _ hk)) ys (Nat.succ.inj hl) fun j k v h1 h2 => hh (j + 1) k v h1 h2]
  have h1 := key xs _ (fun i hi => by
    have := List.mem_range.mp (List.mem_filter.mp hi).1
    exact ⟨xs[i], List.getElem?_eq_getElem this⟩) ys hl h
  rw [h1]
  clear h1 h hl
  have fin : ∀ n, n ≤ xs.length → ((List.range n).filter fun i => (xs[i]?.map pr).getD false).filterMap (fun i => xs[i]?) = (xs.take n).filter pr := by
    intro n
    induction n with
    | zero => intro _; rfl
    | succ n ih =>
      intro hn
      have e : xs[n]? = some xs[n] := List.getElem?_eq_getElem hn
      rw [List.range_succ, List.filter_append, List.filterMap_append, ih (by omega), List.take_add_one, e, List.filter_append]
      congr 1
      show _ = List.filter pr [xs[n]]
      cases hp : pr xs[n] with
      | true =>
        rw [List.filter_cons_of_pos (by rw [e]; exact hp), List.filter_cons_of_pos hp]
        show List.filterMap _ [n] = _
        rw [List.filterMap_cons, e]
        rfl
      | false =>
        rw [List.filter_cons_of_neg (by rw [e, Option.map_some, Option.getD_some, hp]; exact Bool.false_ne_true), List.filter_cons_of_neg (by rw [hp]; exact Bool.false_ne_true)]
        rfl
  have := fin xs.length (Nat.le_refl _)
  rw [List.take_length] at this
  exact this
/-- over a list, with a test: the items that are kept -/
theorem comp_lf {K : PySem.W.Frag} {a : Addr} {xs : List V} (pr : V → Bool) {g : TG} {tt : TT} {te : TE} {vs : List Nat} {σ σw : St} {H : Hp} {QD : Addr → Hp → Prop} (hw : wipe σ vs = σw) (hx : H a = some (.lst xs)) (hl : xs.length ≤ 1000)
    (he : ∀ (i : Nat) (x : V) (H2 : Hp) (R : L2.St → Bool → Hp → Prop), xs[i]? = some x → Same H H2 → (∀ σ2 b H4, b = pr x → Same H2 H4 → (pr x = true → ∀ Q2 : VK, (∀ H5, Same H4 H5 → Q2 x H5) → te σ2 H4 Q2) → R σ2 b H4) → g x σw H2 fun σ2 H4 => wipe σ2 vs = σw ∧ tt σ2 H4 (R σ2))
    (q : ∀ D H', H D = none → Same H H' → H' D = some (.lst (xs.filter pr)) → QD D H') :
    ∀ D, H D = none → ∃ W : Nat → Nat → Hp → Prop, (∃ m, W 0 m (upd H D (.lst []))) ∧ ∀ i m H, W i m H →
      ((Itl K a).stop i H ∧ QD D H) ∨ ((Itl K a).go i H ∧ ∃ Nx : Hp → Prop, (∀ H', Nx H' → ∃ m', m' < m ∧ W (i + 1) m' H') ∧ ∀ x H', (Itl K a).yld i H x H' → g x (wipe σ vs) H' fun σ2 H2 => wipe σ2 vs = wipe σ vs ∧ tt σ2 H2 fun b H3 =>
        if b = true then te σ2 H3 fun y H4 => ∃ acc, H4 D = some (.lst acc) ∧ acc.length < sizeLine ∧ Nx (upd H4 D (.lst (acc ++ [y]))) else Nx H3) := by
  refine comp_g (walk_list (xs := xs)) (fun _ i v _ => xs[i]? = some v) (fun i => (xs[i]?.map pr).getD false) (fun _ _ _ _ _ _ h => h) hw hl (fun H' s => sqL (s _ _ hx)) (fun D i x H2 H3 R hi _ _ s2 hy k => ?_) fun D H' ys hD s hd hlen hv => ?_
  · obtain ⟨rfl, hxi⟩ := hy
    refine he i x H3 R hxi s2 fun σ2 b H4 hb s4 ht => ?_
    refine k σ2 b H4 (by rw [hb, hxi]; rfl) s4 fun hk Q2 hq => ?_
    rw [hxi] at hk
    exact ht hk Q2 fun H5 s5 => hq x H5 s5 hxi
  · rw [kept_eq xs pr ys hlen hv] at hd
    exact q D H' hD s hd
/-- without a test, over anything: elements that are described -/
theorem comp_d {J : It} {n : Nat} {G : Hp → Prop} {Y : Nat → Hp → V → Hp → Prop} (wk : Walk J n G Y) {g : TG} {te : TE} {vs : List Nat} {σ σw : St} {H : Hp} {QD : Addr → Hp → Prop}
    (P : Addr → Nat → V → Hp → Prop) (hP : ∀ D i v H H', But [D] H H' → P D i v H → P D i v H') (hw : wipe σ vs = σw) (hn : n ≤ 1000) (hG : ∀ H', Same H H' → G H')
    (he : ∀ (D : Addr) (i : Nat) (x : V) (H2 H3 : Hp) (R : VK), i < n → (∃ acc, H2 D = some (.lst acc)) → Same H H2 → Y i H2 x H3 →
      (∀ v H5, Same H2 H5 → P D i v H5 → R v H5) → g x σw H3 fun σ2 H4 => wipe σ2 vs = σw ∧ te σ2 H4 R)
    (hY : ∀ i H x H', Y i H x H' → Same H H')
    (q : ∀ D H' ys, H D = none → Same H H' → H' D = some (.lst ys) → ys.length = n → (∀ (i : Nat) (v : V), ys[i]? = some v → P D i v H') → QD D H') :
    ∀ D, H D = none → ∃ W : Nat → Nat → Hp → Prop, (∃ m, W 0 m (upd H D (.lst []))) ∧ ∀ i m H, W i m H →
      (J.stop i H ∧ QD D H) ∨ (J.go i H ∧ ∃ Nx : Hp → Prop, (∀ H', Nx H' → ∃ m', m' < m ∧ W (i + 1) m' H') ∧ ∀ x H', J.yld i H x H' → g x (wipe σ vs) H' fun σ2 H2 => wipe σ2 vs = wipe σ vs ∧ tYes σ2 H2 fun b H3 =>
        if b = true then te σ2 H3 fun y H4 => ∃ acc, H4 D = some (.lst acc) ∧ acc.length < sizeLine ∧ Nx (upd H4 D (.lst (acc ++ [y]))) else Nx H3) := by
  intro D hD
  refine lc_it wk (fun i H' => Same H H' ∧ ∃ ys, H' D = some (.lst ys) ∧ ys.length = i ∧ ∀ (k : Nat) (v : V), ys[k]? = some v → P D k v H')
    ⟨same_upd hD, [], upd_same, rfl, fun k v h1 => by cases h1⟩ (fun i H' _ h => hG _ h.1) (fun i x H2 H3 hi h hyi => ?_) fun H' h => ?_
  · rw [hw]
    obtain ⟨hs, ys, hd, hl, hp⟩ := h
    refine he D i x H2 H3 _ hi ⟨ys, hd⟩ hs hyi fun v H5 s5 hv => ⟨ys, s5 _ _ hd, ?_, ?_, ys ++ [v], upd_same, ?_, ?_⟩
    · rw [hl]
      exact small1000 (by omega)
    · intro b o hb
      rw [upd_ne (ne_of_none hb hD)]
      exact s5 _ _ (hs _ _ hb)
    · rw [List.length_append, hl]
      rfl
    · intro k v' hk
      by_cases hkl : k < ys.length
      · rw [List.getElem?_append_left hkl] at hk
        exact hP D k v' _ _ but1_upd (hP D k v' _ _ (but_of_same s5) (hp k v' hk))
      · rw [List.getElem?_append_right (by omega)] at hk
        have hz : k - ys.length = 0 := by
          have := (List.getElem?_eq_some_iff.mp hk).1
          simp only [List.length_cons, List.length_nil] at this
          omega
        rw [hz] at hk
        cases hk
        have : k = i := by omega
        subst this
        exact hP D _ _ _ _ but1_upd hv
  · obtain ⟨hs, ys, hd, hl, hp⟩ := h
    exact q D H' ys hD hs hd hl hp
local macro_rules | `(tactic| walk_at "ev") => `(tactic| first | refine e_v0 ?_ | refine e_v1 ?_ | refine e_v2 ?_ | refine e_v3 ?_ | refine e_v4 ?_ | refine e_v5 ?_ | refine e_v6 ?_ | refine e_v7 ?_ | refine e_v8 ?_ | refine e_v9 ?_ | refine e_v10 ?_ | refine e_v11 ?_ | refine e_v12 ?_ | refine e_v13 ?_ | refine e_v14 ?_ | refine e_v15 ?_ | refine e_v16 ?_ | refine e_v17 ?_ | refine e_v18 ?_ | refine e_v19 ?_ | refine e_v20 ?_ | refine e_v21 ?_ | refine e_v22 ?_ | refine e_v23 ?_ | refine e_v24 ?_ | refine e_v25 ?_)
local macro_rules | `(tactic| walk_at "gn") => `(tactic| first | refine g_n0 ?_ | refine g_n1 ?_ | refine g_n2 ?_ | refine g_n3 ?_ | refine g_n4 ?_ | refine g_n5 ?_ | refine g_n6 ?_ | refine g_n7 ?_ | refine g_n8 ?_ | refine g_n9 ?_ | refine g_n10 ?_ | refine g_n11 ?_ | refine g_n12 ?_ | refine g_n13 ?_ | refine g_n14 ?_ | refine g_n15 ?_ | refine g_n16 ?_ | refine g_n17 ?_ | refine g_n18 ?_ | refine g_n19 ?_ | refine g_n20 ?_ | refine g_n21 ?_ | refine g_n22 ?_ | refine g_n23 ?_ | refine g_n24 ?_ | refine g_n25 ?_)
local macro_rules | `(tactic| walk_at "st") => `(tactic| with_reducible first | refine s_nx ?_ | refine s_rt ?_ | refine s_bk ?_ | refine s_ct ?_ | refine s_seq ?_ | refine s_next ?_ | refine s_asg ?_ | refine s_par ?_ | refine s_exp ?_ | refine s_ret ?_ | refine s_if ?_ | refine s_brk ?_ | refine s_cnt ?_ | refine e_c ?_ | walk_at "ev" | walk_at "gn" | refine g_sub ?_ | refine e_op ?_ | refine e_un ?_ | refine e_test ?_ | refine e_tB ?_ | refine e_and ?_ | refine e_or ?_ | refine e_not ?_ | refine e_andV ?_ | refine e_orV ?_ | refine e_notV ?_ | refine e_ife ?_ | refine e_chain ?_ | refine e_tup ?_ | refine e_lst ?_ | refine a_nil ?_ | refine a_cons ?_ | refine e_cb ?_ | refine e_call ?_ | refine e_make ?_ | refine e_prop ?_ | refine e_bm ?_ | refine e_bm0 ?_ | refine e_sl ?_ | refine o_none ?_ | refine o_some ?_ | refine ex_bl ?_ | refine ex_int ?_ | refine i_t ?_ | refine i_f ?_ | refine i_nt ?_ | refine i_nf ?_ | refine add_i ?_ | refine r_i0 ?_ | refine eq_i ?_ | refine ne_i ?_ | refine eq_tt ?_ | refine eq_ff ?_ | refine eq_tf ?_ | refine eq_ft ?_ | refine ne_tt ?_ | refine ne_ff ?_ | refine ne_tf ?_ | refine ne_ft ?_ | refine eq_b ?_ | refine int_i ?_ | refine max_i ?_ | refine min_i ?_ | refine ne_b ?_)
local macro_rules | `(tactic| walk_at "go") => `(tactic| repeat walk_at "st")
section
variable {P : Program} {w : World} {K : PySem.W.Frag} {mg : Str → Option Value} {base : Heap}
/-! ### InvalidText -/
theorem num_len {n k : Nat} (hk : 0 < k) (h : n < 10 ^ k) : (Str.ofString (toString ((n : Nat) : Int))).length ≤ k := by
  rw [TL.len_tl, TL.tl_num]
  exact TL.numL_len hk h
theorem str_app' (x y : Str) : (x ++ y).length = x.length + y.length := by
  show (x.cps ++ y.cps).size = _
  rw [Array.size_append]
  rfl
theorem log_small {n : Nat} (h : n < 1900) : (((n : Nat) : Int)).natAbs.log2 < 1920 := by
  have : ((n : Nat) : Int).natAbs = n := Int.natAbs_natCast n
  rw [this]
  exact Nat.lt_of_le_of_lt (Nat.log2_le_self n) (by omega)
/-- the fields of the error -/
def itf (l w : Nat) : List (Str × V) := [("word", .int (w : Nat)), ("line", .int (l : Nat))]
def spInvalid (C : Addr) : Sp := fun vs H Q _ => ∃ (e : Addr) (l w : Nat), vs = [.ref e, .int (l : Nat), .int (w : Nat)] ∧ H e = some (exo e C none) ∧ l < 1900 ∧ w < 1900 ∧ ∀ dx H', H dx = none → dx ≠ e → H' e = some (exo e C (some dx)) → H' dx = some (exd dx (itf l w)) → (∀ b, b ≠ e → b ≠ dx → H' b = H b) → Q .non H'
theorem ok_InvalidText_init (T : TxtP P K mg) : FnOk P w K mg base CX0 1 T.a_InvalidText_init T.fd_InvalidText_init ["self", "line", "word"] (spInvalid T.C_InvalidText) := by
  refine T.F_InvalidText_init.ok (p0 := _) (p1 := _) (p2 := _) (p3 := _) (p4 := _) (ar := _) sc_InvalidText_init rfl rfl rfl rfl rfl (fun vs H Q E h => ?_) (fun cc cda A outer s H vs Q E ox hr h => ?_)
  · obtain ⟨e, l, w, rfl, _⟩ := h
    rfl
  · obtain ⟨e, l, w, rfl, he, hl, hw, q⟩ := h
    refine ⟨_, _, (pa_cons (pe_joined (.cons pe_str (.cons (pe_fmt (pv 1)) (.cons pe_str (.cons (pe_fmt (pv 2)) .nil))))) pa_nil), (pss_cons (ps_ost (pv 0) (pv 1) rfl)
 (pss_one (ps_ost (pv 0) (pv 2) rfl))), e, rfl, he, ?_⟩
    have hz : sizeLine = 16777216 := sizeLine_eq
    have es : NdefX.startF ["self", "line", "word", "__class__"] [V.ref e, V.int (l : Nat), V.int (w : Nat)] [none] = [some (V.ref e), some (V.int (l : Nat)), some (V.int (w : Nat)), none] := rfl
    rw [es]
    have e0 : ((Str.empty ++ ("no text of a machine: line " : Str)) : Str).length = 27 := by decide +kernel
    have e1 : (", word " : Str).length = 7 := by decide +kernel
    have n1 := num_len (n := l) (k := 4) (by decide) (by omega)
    have n2 := num_len (n := w) (k := 4) (by decide) (by omega)
    walk_at "go"
    refine ⟨"no text of a machine: line ", rfl, by omega, ?_⟩
    refine ⟨_, rfl, .inr ⟨(l : Nat), rfl, log_small hl, ?_⟩⟩
    refine ⟨_, rfl, by rw [str_app']; omega, ?_⟩
    refine ⟨", word ", rfl, by rw [str_app', str_app']; omega, ?_⟩
    refine ⟨_, rfl, .inr ⟨(w : Nat), rfl, log_small hw, ?_⟩⟩
    refine ⟨_, rfl, by rw [str_app', str_app', str_app']; omega, ?_⟩
    walk_at "go"
    refine ⟨by show 1 ≤ 1000; decide, he, ?_⟩
    walk_at "go"
    refine ⟨.int (l : Nat), rfl, .ref e, rfl, e, T.C_InvalidText, rfl, T.x_InvalidText, T.n_InvalidText_line, .inl ⟨he, fun dx n ne => ?_⟩⟩
    walk_at "go"
    refine ⟨.int (w : Nat), rfl, .ref e, rfl, e, T.C_InvalidText, rfl, T.x_InvalidText, T.n_InvalidText_word, .inr ?_⟩
    refine ⟨dx, [("line", .int (l : Nat))], upd_same, by rw [upd_ne ne, upd_same], by show 1 ≤ 900; decide, ?_⟩
    refine q dx _ n ne ?_ upd_same fun b nb nd => ?_
    · rw [upd_ne ne.symm, upd_same]
    · rw [upd_ne nd, upd_ne nb, upd_ne nd]
/-! ### words_of, words_at, check_words -/
theorem e_m1 {r : V → List V → Hp → VK → Prop} {to te : TE} {σ : L2.St} {H : Hp} {Q : VK} (q : to σ H fun x H1 => (∃ a, x = V.str a) ∧ te σ H1 fun y H2 => r x [y] H2 Q) : tM1 r to te σ H Q := q
theorem sz1000' {n : Nat} (h : n ≤ 1000) : n + 2 ≤ sizeLine := by
  have hz : sizeLine = 16777216 := sizeLine_eq
  omega
/-- the split of a line by blanks -/
theorem split_r {z : Str} {H : Hp} {Q : VK} (hl : z.length ≤ 1000) (q : ∀ p H', H p = none → Same H H' → H' p = some (.lst ((splS z).map V.str)) → Q (.ref p) H') :
    ∃ a b, V.str z = V.str a ∧ [V.str (" " : Str)] = [V.str b] ∧ (b.length == 0) = false ∧ a.length + 2 ≤ sizeLine ∧ rNewStrs (Txt.split a b) H Q :=
  ⟨z, (" " : Str), rfl, rfl, by decide +kernel, sz1000' hl, fun p hp => q p _ hp (same_upd hp) upd_same⟩
def spWordsOf : Sp := fun vs H Q _ => ∃ z : Str, vs = [.str z] ∧ z.length ≤ 900 ∧ ∀ p H', H p = none → Same H H' → H' p = some (.lst ((wordsOf z).map V.str)) → Q (.ref p) H'
theorem ok_words_of (T : TxtP P K mg) : FnOk P w K mg base CX0 1 T.a_words_of T.fd_words_of ["line"] spWordsOf := by
  refine T.F_words_of.ok sc_words_of (fun vs H Q E h => ?_) (fun cdv A outer s H vs Q E hr h => ?_)
  · obtain ⟨z, rfl, _⟩ := h
    rfl
  · obtain ⟨z, rfl, hl, q⟩ := h
    refine ⟨_, (pss_one (ps_ret (pe_lc (own := [("word", 1)]) (g := (gName 1)) rfl sc_words_of.nd (pi_seq (pe_split (pv 0) pe_str)) (blkOk_by (N := ["line", "word"]) (sc := defScope s_words_of) (by decide +kernel)) (fun _ _ _ _ _ => (pg_name (i := 1) sc_words_of.nd rfl (Or.inl rfl))) (fun _ _ _ _ _ => pts_one (pt_cmpR (r := rNeU K) (op_neU hr.units) (pv 1) pe_str (nomark _))) (fun _ _ _ _ _ => (pv 1))))), ?_⟩
    refine st0 (σ' := [some _, none]) rfl ?_
    walk_at "go"
    refine e_lcL ?_
    refine e_m1 ?_
    walk_at "go"
    refine ⟨⟨_, rfl⟩, ?_⟩
    walk_at "go"
    refine split_r (by omega) fun p H1 hp s1 h1 => ?_
    refine ⟨p, rfl, ⟨_, sqL h1⟩, ?_⟩
    have hlen := splS_len z
    refine comp_lf (xs := (splS z).map V.str) (fun x => !decide (x = V.str ("" : Str))) (σw := [some (.str z), none]) rfl h1 (by rw [List.length_map]; omega) (fun i x H2 R hxi s2 k => ?_) fun D H2 hD s2 hd => ?_
    · walk_at "go"
      refine ⟨rfl, ?_⟩
      walk_at "go"
      obtain ⟨w, hw, rfl⟩ := List.mem_map.mp (List.mem_of_getElem? hxi)
      refine .inl ⟨rfl, ?_⟩
      walk_at "go"
      refine k _ _ _ rfl (Same.refl _) fun hk Q2 hq => ?_
      walk_at "go"
      exact hq _ (Same.refl _)
    · rw [words_v] at hd
      refine q D H2 ?_ (s1.trans s2) hd
      cases e : H D with
      | none => rfl
      | some o =>
        rw [s1 _ _ e] at hD
        cases hD
def spWordsAt : Sp := fun vs H Q _ => ∃ p n m : Nat, vs = [.int (p : Nat), .int (n : Nat), .int (m : Nat)] ∧ n ≤ 8 ∧ ∀ a H', H a = none → Same H H' → H' a = some (.lst ((wordsAt p n m).map V.str)) → Q (.ref a) H'
theorem known_v (n : Nat) : (known n).map V.str = (List.range n).map fun (i : Nat) => V.str (Str.ofString (toString ((i : Nat) : Int))) := by
  unfold known
  rw [List.map_map]
  rfl
theorem ok_words_at (T : TxtP P K mg) : FnOk P w K mg base CX0 1 T.a_words_at T.fd_words_at ["place", "stands", "letters"] spWordsAt := by
  refine T.F_words_at.ok sc_words_at (fun vs H Q E h => ?_) (fun cdv A outer s H vs Q E hr h => ?_)
  · obtain ⟨p, n, m, rfl, _⟩ := h
    rfl
  · obtain ⟨p, n, m, rfl, hn, q⟩ := h
    refine ⟨_, (pss_cons (ps_if (pt_cmpR (r := rEqU K) (op_eqU hr.units) (pv 0) pe_int (nomark _)) (pss_one (ps_ret (pe_lst (pa_cons (pe_glob (v := .str "good") (by rfl) T.g_GOOD ⟨_, rfl⟩) (pa_cons (pe_glob (v := .str "bad") (by rfl) T.g_BAD ⟨_, rfl⟩) pa_nil))))) pss_nil)
 (pss_one (ps_ret (pe_ifExp (pt_cmpR op_le (pv 0) (pv 2) (nomark _)) (pe_lc (own := [("stand", 3)]) (g := (gName 3)) (tt := tYes) rfl sc_words_at.nd (pi_range1 rfl T.z_range (pa_cons (pv 1) pa_nil)) (blkOk_by (N := ["place", "stands", "letters", "stand"]) (sc := defScope s_words_at) (by decide +kernel)) (fun _ _ _ _ _ => (pg_name (i := 3) sc_words_at.nd rfl (Or.inl rfl))) (fun _ _ _ _ _ => pts_nil) (fun _ _ _ _ _ => (pe_callTy call_str_int (by rfl) T.z_str (by decide +kernel) (pa_cons (pv 3) pa_nil)))) (pe_lst pa_nil))))), ?_⟩
    refine st0 (σ' := [some _, some _, some _, none]) rfl ?_
    walk_at "go"
    refine i_d (fun h0 => ?_) (fun h0 => ?_)
    · walk_at "go"
      refine al_l (sz1000 (by show 2 ≤ 1000; decide)) fun a H1 n1 e1 h1 _ => ?_
      walk_at "go"
      refine q a H1 n1 e1 ?_
      rw [show wordsAt p n m = [("good" : Str), ("bad" : Str)] from if_pos (by omega)]
      exact h1
    · walk_at "go"
      refine i_d (fun h1 => ?_) (fun h1 => ?_)
      · refine e_lcR ?_
        walk_at "go"
        refine ⟨(n : Nat), rfl, by omega, by omega, ?_⟩
        rw [Int.toNat_natCast]
        refine comp_p walk_rng (σw := [some (.int p), some (.int n), some (.int m), none]) ((known n).map V.str) (by rw [List.length_map]; unfold known; rw [List.length_map, List.length_range]) rfl (by omega) (fun _ _ => trivial) (fun i x y H2 H3 R hi hyi s2 hy k => ?_) fun D H2 hD s2 hd => ?_
        · obtain ⟨rfl, rfl⟩ := hy
          walk_at "go"
          refine ⟨rfl, ?_⟩
          walk_at "go"
          rw [known_v, List.getElem?_map, List.getElem?_range hi] at hyi
          cases hyi
          rw [Int.zero_add]
          exact ⟨_, rfl, log_small (by omega), k _ (Same.refl _)⟩
        · refine q D H2 hD s2 ?_
          rw [show wordsAt p n m = known n by unfold wordsAt; rw [if_neg (by omega), if_pos (by omega)]]
          exact hd
      · walk_at "go"
        refine al_l (sz1000 (by show 0 ≤ 1000; decide)) fun a H1 n1 e1 h1 _ => ?_
        walk_at "go"
        refine q a H1 n1 e1 ?_
        rw [show wordsAt p n m = [] by unfold wordsAt; rw [if_neg (by omega), if_neg (by omega)]]
        exact h1
/-! ### check_words -/
theorem i_nb {b : Bool} {A B : Prop} (h1 : b = false → A) (h2 : b = true → B) : if (!b) = true then A else B := by
  cases b with
  | true => exact iteF (h2 rfl)
  | false => exact iteT (h1 rfl)
def mkX (C : Addr) (sp : Sp) (Q : XK) : List V → Hp → Prop := fun vs H1 => vs.length ≤ 1000 ∧ ∀ a, H1 a = none → sp (.ref a :: (vs ++ [])) (upd H1 a (exo a C none))
  (fun v H2 => v = .non ∧ ∃ (d : Addr) (fs : List (Str × V)), H2 a = some (exo a C (some d)) ∧ H2 d = some (exd d fs) ∧ H1 d = none ∧ Q (.ref C) (some d) (upd (del H2 a) d (.xd fs))) (fun _ _ _ => False)
theorem e_mko {C : Addr} {sp : Sp} {ta : TA} {σ : L2.St} {H : Hp} {Q : XK} (q : ta σ H (mkX C sp Q)) : tMkO C sp [] ta σ H Q := q
theorem bad_out2 {C : Addr} {H0 H : Hp} {l w : Nat} {x y : V} {W : XK} (ex : x = .int (l : Nat)) (ey : y = .int (w : Nat)) (hl : l < 1900) (hw : w < 1900) (s : Same H0 H) (q : ∀ (d : Addr) (H' : Hp), H0 d = none → Same H0 H' → H' d = some (.xd (itf l w)) → W (.ref C) (some d) H') : mkX C (spInvalid C) W [x, y] H := by
  subst ex
  subst ey
  refine ⟨by show 2 ≤ 1000; decide, fun a ha => ⟨a, l, w, rfl, upd_same, hl, hw, fun dx H' hd ne h1 h2 h3 => ⟨rfl, dx, itf l w, h1, h2, ?_, ?_⟩⟩⟩
  · rw [upd_ne ne] at hd
    exact hd
  · rw [upd_ne ne] at hd
    have h0 : H0 dx = none := by
      cases e : H0 dx with
      | none => rfl
      | some o =>
        rw [s _ _ e] at hd
        cases hd
    refine q dx _ h0 (fun b o hb => ?_) upd_same
    have hb' := s _ _ hb
    have nb : b ≠ dx := fun e => by
      rw [e, hd] at hb'
      cases hb'
    have na : b ≠ a := fun e => by
      rw [e, ha] at hb'
      cases hb'
    rw [upd_ne nb, del_ne na, h3 b na nb, upd_ne na]
    exact hb'
theorem none_of {H H' : Hp} {d : Addr} (s : Same H H') (h : H' d = none) : H d = none := by
  cases e : H d with
  | none => rfl
  | some o =>
    rw [s _ _ e] at h
    cases h
/-- rows of words -/
def Rws (H : Hp) (v : V) (rows : List (List Str)) : Prop := ∃ a xs, v = .ref a ∧ H a = some (.lst xs) ∧ xs.length = rows.length ∧ ∀ (i : Nat) (x : V) (ws : List Str), xs[i]? = some x → rows[i]? = some ws → ∃ b, x = .ref b ∧ H b = some (.lst (ws.map V.str))
theorem Rws.same {H H' : Hp} {v : V} {rows : List (List Str)} (h : Rws H v rows) (s : Same H H') : Rws H' v rows := by
  obtain ⟨a, xs, e, h, l, f⟩ := h
  exact ⟨a, xs, e, s _ _ h, l, fun i x ws h1 h2 => by
    obtain ⟨b, e, hb⟩ := f i x ws h1 h2
    exact ⟨b, e, s _ _ hb⟩⟩
theorem inV_str (w : Str) : ∀ l : List Str, inV (.str w) (l.map V.str) = l.contains w
  | [] => rfl
  | x :: l => by
    have ih := inV_str w l
    unfold inV at ih ⊢
    rw [List.map_cons, List.any_cons, ih, List.contains_cons]
    show ((x == w) || l.contains w) = ((w == x) || l.contains w)
    rw [BEq.comm]
theorem flat_str (l : List Str) : (l.map V.str).all flatV = true := by
  rw [List.all_map, List.all_eq_true]
  intro _ _
  rfl
/-- a word among words -/
theorem not_in {K : PySem.W.Frag} {H : Hp} {w : Str} {p : Addr} {l : List Str} {Q : VK} (h : H p = some (.lst (l.map V.str))) (q : Q (.bl (!l.contains w)) H) : rIn K true (.str w) (.ref p) H Q :=
  ⟨p, _, rfl, .inl (sqL h), rfl, flat_str l, by rw [inV_str]; exact q⟩
theorem f_forEn {K : PySem.W.Frag} {tr : TA} {g : TG} {tb : TS} {D : Ends} {σ : L2.St} {H : Hp} (q : tr σ H fun vs H1 => ∃ a xs, vs = [.ref a] ∧ SqL K H1 a xs ∧ ∃ W : Nat → Nat → L2.St → Hp → Prop, (∃ m, W 0 m σ H1) ∧ ∀ i m σ H, W i m σ H →
  ((Ite K a).stop i H ∧ D.nx σ H) ∨ ((Ite K a).go i H ∧ ∃ N : L2.St → Hp → Prop, (∀ σ' H', N σ' H' → ∃ m', m' < m ∧ W (i + 1) m' σ' H') ∧ ∀ x H', (Ite K a).yld i H x H' → g x σ H' fun σ2 H2 => tb { D with nx := N, ct := N, bk := D.nx } σ2 H2)) : tFor (iEnum K tr) g tb D σ H := q
theorem scan_lt {n m : Nat} : ∀ {ws : List Str} {p r : Nat}, scan n m p ws = some r → p ≤ r ∧ r < p + ws.length
  | [], p, r, h => by cases h
  | w :: ws, p, r, h => by
    rw [scan] at h
    split at h
    · have := scan_lt h
      rw [List.length_cons]
      omega
    · cases h
      rw [List.length_cons]
      omega
theorem wr_le {n l m : Nat} {ws : List Str} {w : Nat} (h : wr n l m ws = some w) : w ≤ ws.length + 1 := by
  unfold wr at h
  split at h
  · rename_i p hp
    cases h
    have := scan_lt hp
    omega
  · split at h
    · cases h
      omega
    · cases h
def spCheck (C : Addr) : Sp := fun vs H Q E => ∃ (v : V) (rows : List (List Str)) (k l m : Nat) (ws : List Str), vs = [v, .int (k : Nat), .int (l : Nat), .int (m : Nat)] ∧ Rws H v rows ∧ rows.length ≤ 8 ∧ rows[k]? = some ws ∧ ws.length ≤ 1000 ∧
  (wr rows.length l m ws = none → ∀ H', Same H H' → Q .non H') ∧ (∀ w, wr rows.length l m ws = some w → ∀ d H', H d = none → Same H H' → H' d = some (.xd (itf (k + 1) w)) → E (.ref C) (some d) H')
theorem ok_check_words (T : TxtP P K mg) : FnOk P w K mg base (L2.CX P w) 3 T.a_check_words T.fd_check_words ["rows", "index", "least", "most"] (spCheck T.C_InvalidText) := by
  refine T.F_check_words.okX sc_check_words (fun vs H Q E h => ?_) (fun cdv A outer s H vs Q E hr h => ?_)
  · obtain ⟨v, rows, k, l, m, ws, rfl, _⟩ := h
    rfl
  · obtain ⟨v, rows, k, l, m, ws, rfl, ⟨a, xs, rfl, ha, hlen, hxp⟩, h8, hk, hwl, q, qx⟩ := h
    refine ⟨_, (pss_cons (ps_set (i := 4) sc_check_words.nd rfl (Or.inl rfl) (pe_ix (r := rIx K) ix_seq (pv 0) (pv 1) (fun _ _ => rfl)))
 (pss_cons (ps_for (passes_of rfl) rfl (pi_enum (by rfl) T.z_enumerate (pa_cons (pv 4) pa_nil)) (pg_tup rfl (pgs_cons (pg_name (i := 5) sc_check_words.nd rfl (Or.inl rfl)) (pgs_cons (pg_name (i := 6) sc_check_words.nd rfl (Or.inl rfl)) pgs_nil)))
 (pss_one (ps_if (pt_cmpR (r := rIn K true) op_notIn_seq (pv 6) (pe_call (ok_words_at T) (hr.mono (by decide)) (by rfl) T.g_words_at T.F_words_at.kp T.b_words_at .nil pass0 (pa_cons (pv 5) (pa_cons (pe_callB (r := rLenU K) call_lenU (by rfl) T.z_len (by decide +kernel) (pa_cons (pv 0) pa_nil)) (pa_cons (pv 3) pa_nil)))) (by rfl)) (pss_one (ps_raise rfl (takes_of rfl rfl rfl rfl) (pmk_oex T.x_InvalidText T.i_InvalidText T.t_InvalidText_init (ok_InvalidText_init T) (hr.mono (by decide)) T.b_InvalidText_init .nil pass0 (by rfl) T.g_InvalidText (pa_cons (pe_op (r := rAddU K) op_addU (pv 1) pe_int) (pa_cons (pe_op (r := rAddU K) op_addU (pv 5) pe_int) pa_nil))))) pss_nil)))
 (pss_one (ps_if (pt_cmpR op_lt (pe_callB (r := rLenU K) call_lenU (by rfl) T.z_len (by decide +kernel) (pa_cons (pv 4) pa_nil)) (pe_op (r := rAddU K) op_addU pe_int (pv 2)) (nomark _)) (pss_one (ps_raise rfl (takes_of rfl rfl rfl rfl) (pmk_oex T.x_InvalidText T.i_InvalidText T.t_InvalidText_init (ok_InvalidText_init T) (hr.mono (by decide)) T.b_InvalidText_init .nil pass0 (by rfl) T.g_InvalidText (pa_cons (pe_op (r := rAddU K) op_addU (pv 1) pe_int) (pa_cons (pe_op (r := rAddU K) op_addU (pe_callB (r := rLenU K) call_lenU (by rfl) T.z_len (by decide +kernel) (pa_cons (pv 4) pa_nil)) pe_int) pa_nil))))) pss_nil)))), ?_⟩
    refine st0 (σ' := [some _, some _, some _, some _, none, none, none]) rfl ?_
    walk_at "go"
    have hkl : k < rows.length := (List.getElem?_eq_some_iff.mp hk).1
    have hx : ∃ x, xs[k]? = some x := ⟨xs[k]'(by omega), List.getElem?_eq_getElem (by omega)⟩
    obtain ⟨x, hx⟩ := hx
    obtain ⟨b, rfl, hb⟩ := hxp k x ws hx hk
    refine ix_l (sqL ha) (atI_nat hx) ?_
    walk_at "go"
    refine f_forEn ?_
    walk_at "go"
    refine ⟨b, _, rfl, sqL hb, for_it (walk_enumL (K := K) (xs := ws.map V.str)) (fun i σ H2 => ∃ y1 y2, σ = [some (.ref a), some (.int (k : Nat)), some (.int (l : Nat)), some (.int (m : Nat)), some (.ref b), y1, y2] ∧ Same H H2 ∧ scan rows.length m 0 ws = scan rows.length m i (ws.drop i))
      ⟨none, none, rfl, Same.refl _, by rw [List.drop_zero]⟩ (fun i σ H2 _ h => ?_) (fun i x σ H2 H3 hi h hy => ?_) (fun σ H2 h => ?_)⟩
    · obtain ⟨_, _, _, s, _⟩ := h
      exact sqL (s _ _ hb)
    · obtain ⟨y1, y2, rfl, s, hold⟩ := h
      obtain ⟨t, u1, u2, rfl, ht, e3, eu1, eu2⟩ := hy
      obtain ⟨s3, h3⟩ := new_same ht e3
      have sx := s.trans s3
      rw [List.length_map] at hi
      have hu1 : u1 = .int (i : Nat) := (Option.some.inj eu1).symm
      subst hu1
      replace eu2 : (ws.map V.str)[i]? = some u2 := eu2
      have hwi : ws[i]? = some ws[i] := List.getElem?_eq_getElem hi
      rw [List.getElem?_map, hwi] at eu2
      cases eu2
      refine g_pair (sqT h3) (σ' := [some (.ref a), some (.int (k : Nat)), some (.int (l : Nat)), some (.int (m : Nat)), some (.ref b), some (.int (i : Nat)), some (.str ws[i])]) rfl ?_
      walk_at "go"
      refine len_l (sqL (sx _ _ ha)) ?_
      walk_at "go"
      rw [hlen]
      refine ⟨i, rows.length, m, rfl, h8, fun p H4 hp s4 h4 => ?_⟩
      walk_at "go"
      refine not_in h4 ?_
      have hd : ws.drop i = ws[i] :: ws.drop (i + 1) := List.drop_eq_getElem_cons hi
      rw [hd, scan] at hold
      refine ⟨_, rfl, ?_⟩
      refine i_nb (fun hc => ?_) (fun hc => ?_)
      · walk_at "go"
        rw [if_neg (by rw [hc]; exact Bool.false_ne_true)] at hold
        refine e_mko ?_
        walk_at "go"
        refine bad_out2 (l := k + 1) (w := i + 1) rfl rfl (by omega) (by omega) (sx.trans s4) (qx (i + 1) ?_)
        unfold wr
        rw [hold]
      · walk_at "go"
        rw [if_pos hc] at hold
        exact ⟨_, _, rfl, sx.trans s4, hold⟩
    · obtain ⟨y1, y2, rfl, s, hold⟩ := h
      rw [List.length_map, List.drop_length] at hold
      rw [show scan rows.length m ws.length [] = none from rfl] at hold
      walk_at "go"
      refine len_l (sqL (s _ _ hb)) ?_
      walk_at "go"
      rw [List.length_map]
      refine i_d (fun h1 => ?_) (fun h1 => ?_)
      · walk_at "go"
        refine e_mko ?_
        walk_at "go"
        refine len_l (sqL (s _ _ hb)) ?_
        walk_at "go"
        rw [List.length_map]
        refine bad_out2 (l := k + 1) (w := ws.length + 1) rfl rfl (by omega) (by omega) s (qx (ws.length + 1) ?_)
        unfold wr
        rw [hold]
        exact if_pos (by omega)
      · walk_at "go"
        refine q ?_ _ s
        unfold wr
        rw [hold]
        exact if_neg (by omega)
/-! ### rows of words without a fault are a machine's -/
def val (w : Str) : Int := (intText? w).getD 0
theorem wr_none {n l m : Nat} {ws : List Str} (h : wr n l m ws = none) : scan n m 0 ws = none ∧ 1 + l ≤ ws.length := by
  unfold wr at h
  split at h
  · cases h
  · rename_i e
    refine ⟨e, ?_⟩
    by_cases hl : ws.length < 1 + l
    · rw [if_pos hl] at h
      cases h
    · omega
theorem scan_none {n m : Nat} : ∀ {ws : List Str} {p : Nat}, scan n m p ws = none → ∀ (i : Nat) (w : Str), ws[i]? = some w → (wordsAt (p + i) n m).contains w = true
  | [], _, _, i, w, h => by cases h
  | x :: ws, p, h, i, w, hi => by
    rw [scan] at h
    by_cases hc : (wordsAt p n m).contains x = true
    · rw [if_pos hc] at h
      cases i with
      | zero =>
        cases hi
        exact hc
      | succ i =>
        have := scan_none h i w hi
        rw [show p + (i + 1) = p + 1 + i by omega]
        exact this
    · rw [if_neg hc] at h
      cases h
theorem known_val {n : Nat} {w : Str} (h8 : n ≤ 8) (h : (known n).contains w = true) : ∃ i : Nat, i < n ∧ intText? w = some (i : Nat) ∧ w.length ≤ 640 := by
  have hm : w ∈ known n := List.contains_iff_mem.mp h
  obtain ⟨i, hi, rfl⟩ := List.mem_map.mp hm
  have hi' := List.mem_range.mp hi
  have hl := TL.numL_len (n := i) (k := 1) (by decide) (by omega)
  refine ⟨i, hi', TL.int_num (by omega), ?_⟩
  rw [TL.len_tl, TL.tl_num]
  omega
theorem row_ok {n m : Nat} {ws : List Str} (h8 : n ≤ 8) (h : scan n m 0 ws = none) : ws.length ≤ 1 + m ∧ ∀ w ∈ ws.drop 1, ∃ i : Nat, i < n ∧ intText? w = some (i : Nat) ∧ w.length ≤ 640 := by
  refine ⟨?_, fun w hw => ?_⟩
  · by_cases hl : ws.length ≤ 1 + m
    · exact hl
    · have := scan_none h (m + 1) _ (List.getElem?_eq_getElem (by omega))
      unfold wordsAt at this
      rw [if_neg (by omega), if_neg (by omega)] at this
      cases this
  · obtain ⟨j, hj, rfl⟩ := List.mem_iff_getElem.mp hw
    rw [List.length_drop] at hj
    have := scan_none h (1 + j) _ (List.getElem?_eq_getElem (by omega))
    unfold wordsAt at this
    rw [if_neg (by omega)] at this
    rw [List.getElem_drop]
    by_cases hc : 0 + (1 + j) ≤ m
    · rw [if_pos hc] at this
      exact known_val h8 this
    · rw [if_neg hc] at this
      cases this
def rowI (ws : List Str) : List Int := (ws.drop 1).map val
def isGood (rows : List (List Str)) (i : Nat) : Bool := decide ((rows.getD i []).getD 0 ("" : Str) = ("good" : Str))
def goodsOf (rows : List (List Str)) : List Int := ((List.range rows.length).filter (isGood rows)).map fun (i : Nat) => ((i : Nat) : Int)
theorem fk_lt {rows : List (List Str)} {k : Nat} (h : k < 8) : fk rows k = wr (min rows.length 8) (max 1 (stepsOf rows k)) (if 0 < stepsOf rows k then stepsOf rows k else 3) (rows.getD k []) := if_neg (by omega)
theorem fk_zero (rows : List (List Str)) : fk rows 0 = wr (min rows.length 8) 1 3 (rows.getD 0 []) := by
  rw [fk_lt (by omega)]
  rfl
theorem fk_more {rows : List (List Str)} {k : Nat} (h : k < 8) (h0 : 0 < k) (h1 : 1 ≤ (rows.getD 0 []).length - 1) : fk rows k = wr (min rows.length 8) ((rows.getD 0 []).length - 1) ((rows.getD 0 []).length - 1) (rows.getD k []) := by
  rw [fk_lt h]
  have e : stepsOf rows k = (rows.getD 0 []).length - 1 := if_neg (by omega)
  rw [e, if_pos (by omega), Nat.max_eq_right h1]
theorem first_ok {rows : List (List Str)} (h : fk rows 0 = none) : 1 ≤ (rows.getD 0 []).length - 1 ∧ (rows.getD 0 []).length - 1 ≤ 3 := by
  rw [fk_zero] at h
  obtain ⟨h1, h2⟩ := wr_none h
  have := (row_ok (by omega) h1).1
  omega
theorem each_ok {rows : List (List Str)} (h8 : rows.length ≤ 8) (hn : ∀ j, j < rows.length → fk rows j = none) {j : Nat} {ws : List Str} (hj : rows[j]? = some ws) : ws.length = (rows.getD 0 []).length ∧ ∀ w ∈ ws.drop 1, ∃ i : Nat, i < rows.length ∧ intText? w = some (i : Nat) ∧ w.length ≤ 640 := by
  have hjl := (List.getElem?_eq_some_iff.mp hj).1
  have h0 := hn 0 (by omega)
  obtain ⟨l1, l3⟩ := first_ok h0
  have e : rows.getD j [] = ws := getD_of hj
  have hm : min rows.length 8 = rows.length := by omega
  cases j with
  | zero =>
    rw [fk_zero, e, hm] at h0
    obtain ⟨h1, h2⟩ := wr_none h0
    refine ⟨by rw [e], (row_ok h8 h1).2⟩
  | succ j =>
    have hh := hn (j + 1) hjl
    rw [fk_more (by omega) (by omega) l1, e, hm] at hh
    obtain ⟨h1, h2⟩ := wr_none hh
    obtain ⟨r1, r2⟩ := row_ok h8 h1
    exact ⟨by omega, r2⟩
theorem val_of {w : Str} {i : Nat} (h : intText? w = some (i : Nat)) : val w = (i : Nat) := by
  unfold val
  rw [h]
  rfl
theorem okM_of {rows : List (List Str)} (h1 : rows ≠ []) (h8 : rows.length ≤ 8) (hn : ∀ j, j < rows.length → fk rows j = none) : OkM ((rows.getD 0 []).length - 1) (rows.map rowI) (goodsOf rows) := by
  have hp : 0 < rows.length := List.length_pos_iff.mpr h1
  obtain ⟨l1, l3⟩ := first_ok (hn 0 hp)
  refine ⟨by rw [List.length_map]; omega, by rw [List.length_map]; omega, l1, l3, fun r hr => ?_, fun z hz => ?_, ?_⟩
  · obtain ⟨ws, hws, rfl⟩ := List.mem_map.mp hr
    obtain ⟨j, hj, e⟩ := List.mem_iff_getElem.mp hws
    obtain ⟨e1, e2⟩ := each_ok h8 hn (j := j) (ws := ws) (by rw [List.getElem?_eq_getElem hj, e])
    refine ⟨by unfold rowI; rw [List.length_map, List.length_drop, e1], fun z hz => ?_⟩
    obtain ⟨w, hw, rfl⟩ := List.mem_map.mp hz
    obtain ⟨i, hi, hv, _⟩ := e2 w hw
    rw [val_of hv, List.length_map]
    omega
  · obtain ⟨i, hi, rfl⟩ := List.mem_map.mp hz
    have := List.mem_range.mp (List.mem_filter.mp hi).1
    rw [List.length_map]
    omega
  · unfold goodsOf
    rw [List.pairwise_map]
    refine List.Pairwise.filter _ ?_
    refine List.Pairwise.imp ?_ List.pairwise_lt_range
    intro a b h
    omega
theorem cut_take (xs : List V) (k : Nat) : cutV xs none (some ((k : Nat) : Int)) = xs.take k := by
  unfold cutV
  rw [HT.sIx_nat, HT.sIx_none, List.drop_zero]
  by_cases h : k ≤ xs.length
  · rw [Nat.min_eq_left h, Nat.sub_zero]
  · rw [Nat.min_eq_right (by omega), Nat.sub_zero, List.take_of_length_le (Nat.le_refl _), List.take_of_length_le (by omega)]
theorem cut_drop (xs : List V) (k : Nat) : cutV xs (some ((k : Nat) : Int)) none = xs.drop k := by
  unfold cutV
  rw [HT.sIx_nat, HT.sIx_none]
  by_cases h : k ≤ xs.length
  · rw [Nat.min_eq_left h]
    exact List.take_of_length_le (by rw [List.length_drop]; omega)
  · rw [Nat.min_eq_right (by omega), List.drop_eq_nil_of_le (Nat.le_refl _), List.drop_eq_nil_of_le (by omega), List.take_nil]
theorem ok_is_below (T : TxtP P K mg) : FnOk P w K mg base CX0 1 T.a_is_below T.fd_is_below ["value", "limit"] (spBelow K) := by
  refine T.F_is_below.ok sc_is_below (fun vs H Q E h => ?_) (fun cdv A outer s H vs Q E hr h => ?_)
  · obtain ⟨x, n, t, rfl, _⟩ := h
    rfl
  · obtain ⟨x, n, t, rfl, k, q⟩ := h
    refine ⟨_, (pss_one (ps_ret (pe_and (pe_callB (r := rIsi K) call_isi (by rfl) T.z_isinstance (by decide +kernel) (pa_cons (pv 0) (pa_cons (pe_bltn (v := .ty "int") (by rfl) T.z_int (by decide +kernel) rfl) pa_nil))) (pe_and (pe_not (pe_callB (r := rIsi K) call_isi (by rfl) T.z_isinstance (by decide +kernel) (pa_cons (pv 0) (pa_cons (pe_bltn (v := .ty "bool") (by rfl) T.z_bool (by decide +kernel) rfl) pa_nil)))) (pe_one (pe_chain op_le op_lt pe_int (pv 0) (pv 1))))))), ?_⟩
    refine st0 (σ' := [some _, some _]) rfl ?_
    cases k with
    | int i =>
      walk_at "go"
      refine isi (Kd.int i).ty kb_ii ?_
      walk_at "go"
      refine isi (Kd.int i).ty kb_ib ?_
      walk_at "go"
      refine i_d (fun h0 => ?_) (fun h0 => ?_)
      · walk_at "go"
        rw [show below (.int i) n = decide (i < n) by rw [below_int, decide_eq_true h0]; rfl] at q
        exact q
      · walk_at "go"
        rw [show below (.int i) n = false by rw [below_int, decide_eq_false h0]; rfl] at q
        exact q
    | bl b =>
      walk_at "go"
      refine isi (Kd.bl b).ty kb_bi ?_
      walk_at "go"
      refine isi (Kd.bl b).ty kb_bb ?_
      walk_at "go"
      exact q
    | non =>
      walk_at "go"
      refine isi Kd.non.ty kb_ni ?_
      walk_at "go"
      exact q
    | str z =>
      walk_at "go"
      refine isi (Kd.str z).ty kb_si ?_
      walk_at "go"
      exact q
    | tup hh =>
      walk_at "go"
      refine isi (Kd.tup hh).ty kb_ti ?_
      walk_at "go"
      exact q
    | lst hh =>
      walk_at "go"
      refine isi (Kd.lst hh).ty kb_li ?_
      walk_at "go"
      exact q
/-! ### the program: machines, all as it should be -/
def spAre (K : PySem.W.Frag) : Sp := fun vs H Q _ => ∃ (x : V) (n : Int), vs = [x, .int n] ∧
  ((∃ a xs, x = .ref a ∧ SqT K H a xs ∧ xs.length ≤ 1000 ∧ (∀ y ∈ xs, ∃ t, ∀ H', Kd K H' y t) ∧ ∀ H', Same H H' → Q (.bl (xs.all fun x => below x n)) H') ∨ (∃ t, Kd K H x t ∧ kitB t "tuple" = some false ∧ Q (.bl false) H))
theorem ok_are_below (T : TxtP P K mg) : FnOk P w K mg base CX0 2 T.a_are_below T.fd_are_below ["values", "limit"] (spAre K) := by
  refine T.F_are_below.ok sc_are_below (fun vs H Q E h => ?_) (fun cdv A outer s H vs Q E hr h => ?_)
  · obtain ⟨x, n, rfl, _⟩ := h
    rfl
  · obtain ⟨x, n, rfl, h⟩ := h
    refine ⟨_, (pss_one (ps_ret (pe_and (pe_callB (r := rIsi K) call_isi (by rfl) T.z_isinstance (by decide +kernel) (pa_cons (pv 0) (pa_cons (pe_bltn (v := .ty "tuple") (by rfl) T.z_tuple (by decide +kernel) rfl) pa_nil))) (pe_one (pe_callB (r := rAll K) (cr_all rfl) (by rfl) T.z_all (by decide +kernel) (pa_cons (pe_lc (own := [("value", 2)]) (g := (gName 2)) (tt := tYes) rfl sc_are_below.nd (pi_seq (pv 0)) (blkOk_by (N := ["values", "limit", "value"]) (sc := defScope s_are_below) (by decide +kernel)) (fun _ _ _ _ _ => (pg_name (i := 2) sc_are_below.nd rfl (Or.inl rfl))) (fun _ _ _ _ _ => pts_nil) (fun _ _ _ _ _ => (pe_call (ok_is_below T) (hr.mono (by decide)) (by rfl) T.g_is_below T.F_is_below.kp T.b_is_below .nil pass0 (pa_cons (pv 2) (pa_cons (pv 1) pa_nil))))) pa_nil)))))), ?_⟩
    refine st0 (σ' := [some _, some _, none]) rfl ?_
    rcases h with ⟨a, xs, rfl, hx, hl, hk, q⟩ | ⟨t, k, kt, q⟩
    · walk_at "go"
      refine isi (tyx_t hx) kb_tt ?_
      walk_at "go"
      refine e_lcT ?_
      walk_at "go"
      refine comp_t (K := K) (σw := [some (.ref a), some (.int n), none]) (ys := (xs.map fun x => below x n).map V.bl) rfl hx hl (by simp) ?_ ?_
      · intro i x y H2 R hxi hyi s2 hR
        walk_at "go"
        refine ⟨rfl, ?_⟩
        obtain ⟨t, kt⟩ := hk x (List.mem_of_getElem? hxi)
        walk_at "go"
        refine ⟨x, n, t, rfl, kt _, ?_⟩
        have ey : y = .bl (below x n) := by
          rw [List.getElem?_map, List.getElem?_map, hxi] at hyi
          exact (Option.some.inj hyi).symm
        rw [← ey]
        exact hR _ (Same.refl _)
      · intro D H' hD s hd
        walk_at "go"
        refine ⟨D, _, rfl, sqL hd, ?_⟩
        rw [all_bl]
        exact q _ s
    · walk_at "go"
      refine isi k.ty kt ?_
      walk_at "go"
      exact q
def leadsV (xs : List V) (n : Int) : Bool := decide (1 ≤ xs.length) && decide (xs.length ≤ 3) && xs.all fun x => below x n
def spLeads (K : PySem.W.Frag) : Sp := fun vs H Q _ => ∃ (x : V) (n : Int), vs = [x, .int n] ∧
  ((∃ a xs, x = .ref a ∧ SqT K H a xs ∧ xs.length ≤ 1000 ∧ (∀ y ∈ xs, ∃ t, ∀ H', Kd K H' y t) ∧ ∀ H', Same H H' → Q (.bl (leadsV xs n)) H') ∨ (∃ t, Kd K H x t ∧ kitB t "tuple" = some false ∧ Q (.bl false) H))
theorem ok_are_leads (T : TxtP P K mg) : FnOk P w K mg base CX0 3 T.a_are_leads T.fd_are_leads ["leads", "stands"] (spLeads K) := by
  refine T.F_are_leads.ok sc_are_leads (fun vs H Q E h => ?_) (fun cdv A outer s H vs Q E hr h => ?_)
  · obtain ⟨x, n, rfl, _⟩ := h
    rfl
  · obtain ⟨x, n, rfl, h⟩ := h
    refine ⟨_, (pss_one (ps_ret (pe_and (pe_call (ok_are_below T) (hr.mono (by decide)) (by rfl) T.g_are_below T.F_are_below.kp T.b_are_below .nil pass0 (pa_cons (pv 0) (pa_cons (pv 1) pa_nil))) (pe_one (pe_chain op_le op_le pe_int (pe_callB (r := rLenU K) call_lenU (by rfl) T.z_len (by decide +kernel) (pa_cons (pv 0) pa_nil)) (pe_glob (v := .int 3) (by rfl) T.g_MOST_LETTERS ⟨_, rfl⟩)))))), ?_⟩
    refine st0 (σ' := [some _, some _]) rfl ?_
    rcases h with ⟨a, xs, rfl, hx, hl, hk, q⟩ | ⟨t, k, kt, q⟩
    · walk_at "go"
      refine ⟨_, _, rfl, .inl ⟨a, xs, rfl, hx, hl, hk, fun H4 s4 => ?_⟩⟩
      cases hv : (xs.all fun x => below x n) with
      | false =>
        walk_at "go"
        rw [show leadsV xs n = false by unfold leadsV; rw [hv]; simp] at q
        exact q _ s4
      | true =>
        walk_at "go"
        refine len_t (s4.t hx) ?_
        walk_at "go"
        refine i_d (fun h1 => ?_) (fun h1 => ?_)
        · walk_at "go"
          rw [show leadsV xs n = decide ((xs.length : Int) ≤ 3) by
            unfold leadsV
            rw [hv, decide_eq_true (p := 1 ≤ xs.length) (by omega), Bool.and_true, Bool.true_and]
            by_cases h3 : xs.length ≤ 3
            · rw [decide_eq_true h3, decide_eq_true (by omega)]
            · rw [decide_eq_false h3, decide_eq_false (by omega)]] at q
          exact q _ s4
        · walk_at "go"
          rw [show leadsV xs n = false by unfold leadsV; rw [decide_eq_false (p := 1 ≤ xs.length) (by omega)]; rfl] at q
          exact q _ s4
    · walk_at "go"
      refine ⟨_, _, rfl, .inr ⟨t, k, kt, ?_⟩⟩
      walk_at "go"
      exact q
theorem kd_int (i : Int) : ∃ t, ∀ H', Kd K H' (.int i) t := ⟨"int", fun _ => .int i⟩
theorem below_all {ns : List Int} {n : Int} (h : ∀ z ∈ ns, 0 ≤ z ∧ z < n) : ((ns.map V.int).all fun x => below x n) = true := by
  rw [List.all_eq_true]
  intro x hx
  obtain ⟨z, hz, rfl⟩ := List.mem_map.mp hx
  rw [below_int, decide_eq_true (h z hz).1, decide_eq_true (h z hz).2]
  rfl
def spGood (K : PySem.W.Frag) : Sp := fun vs H Q _ => ∃ (v : V) (n : Int) (gs : List Int), vs = [v, .int n] ∧ IntsT K H v gs ∧ gs.length ≤ 8 ∧ (∀ z ∈ gs, 0 ≤ z ∧ z < n) ∧ gs.Pairwise (· < ·) ∧ ∀ H', Same H H' → Q .non H'
theorem rep_all (n : Nat) : (List.replicate n true).all id = true := by
  rw [List.all_eq_true]
  intro x hx
  rw [List.eq_of_mem_replicate hx]
  rfl
theorem ok_check_good (T : TxtP P K mg) : FnOk P w K mg base CX0 3 T.a_check_good T.fd_check_good ["good", "stands"] (spGood K) := by
  refine T.F_check_good.ok sc_check_good (fun vs H Q E h => ?_) (fun cdv A outer s H vs Q E hr h => ?_)
  · obtain ⟨v, n, gs, rfl, _⟩ := h
    rfl
  · obtain ⟨v, n, gs, rfl, ⟨a, rfl, hx⟩, hl, hz, hp, q⟩ := h
    refine ⟨_, (pss_cons (ps_if (pt_not (pt_val (pe_call (ok_are_below T) (hr.mono (by decide)) (by rfl) T.g_are_below T.F_are_below.kp T.b_are_below .nil pass0 (pa_cons (pv 0) (pa_cons (pv 1) pa_nil))))) (pss_one ps_never) pss_nil)
 (pss_one (ps_if (pt_not (pt_val (pe_callB (r := rAll K) (cr_all rfl) (by rfl) T.z_all (by decide +kernel) (pa_cons (pe_lc (own := [("one", 2), ("other", 3)]) (g := (gTup K 2 (gCons (gName 2) (gCons (gName 3) gNil)))) (tt := tYes) rfl sc_check_good.nd (pi_zipA (by rfl) T.z_zip (pa_cons (pv 0) (pa_cons (pe_slice (r := rSlU K) sl_U (pv 0) (po_some pe_int) po_none) pa_nil))) (blkOk_by (N := ["good", "stands", "one", "other"]) (sc := defScope s_check_good) (by decide +kernel)) (fun _ _ _ _ _ => (pg_tup rfl (pgs_cons (pg_name (i := 2) sc_check_good.nd rfl (Or.inl rfl)) (pgs_cons (pg_name (i := 3) sc_check_good.nd rfl (Or.inl rfl)) pgs_nil)))) (fun _ _ _ _ _ => pts_nil) (fun _ _ _ _ _ => (pe_cmpR op_lt (pv 2) (pv 3) (nomark _)))) pa_nil)))) (pss_one ps_never) pss_nil))), ?_⟩
    refine st0 (σ' := [some _, some _, none, none]) rfl ?_
    walk_at "go"
    refine ⟨_, _, rfl, .inl ⟨a, _, rfl, hx, (by rw [List.length_map]; omega), fun y hy => ?_, fun H1 s1 => ?_⟩⟩
    · obtain ⟨z, _, rfl⟩ := List.mem_map.mp hy
      exact kd_int z
    · rw [below_all hz]
      walk_at "go"
      refine e_lcZ ?_
      walk_at "go"
      refine sl_t (s1.t hx) fun p H2 s2 h2 => ?_
      walk_at "go"
      refine ⟨a, p, _, _, rfl, .inr ⟨(s1.trans s2).t hx, h2, ?_⟩⟩
      have hcut : cutV (gs.map V.int) (some 1) none = (gs.drop 1).map V.int := by
        unfold cutV
        rw [show HT.sIx (gs.map V.int).length 0 (some 1) = min 1 (gs.map V.int).length from HT.sIx_nat _ 0 1, HT.sIx_none]
        cases gs with
        | nil => rfl
        | cons x r =>
          rw [show min 1 (List.map V.int (x :: r)).length = 1 by rw [List.length_map, List.length_cons]; omega]
          show List.take (_ - 1) (r.map V.int) = r.map V.int
          exact List.take_of_length_le (by rw [List.length_map, List.length_map, List.length_cons]; omega)
      rw [hcut] at h2
      refine comp_w (walk_zipT (n := gs.length - 1) (by rw [List.length_map, List.length_map, List.length_drop]; omega)) (σw := [some (.ref a), some (.int n), none, none]) (ys := (List.replicate (gs.length - 1) true).map V.bl) rfl (by omega) (by simp) (fun H' s' => ⟨(s1.trans (s2.trans s')).t hx, s'.t h2⟩) ?_ ?_
      · intro i x y H3 H4 R hi hyi s3 hY hR
        obtain ⟨t, u1, u2, rfl, ht, e4, eu1, eu2⟩ := hY
        obtain ⟨s4, h4⟩ := new_same ht e4
        replace eu1 : (gs.map V.int)[i]? = some u1 := eu1
        replace eu2 : ((gs.drop 1).map V.int)[i]? = some u2 := eu2
        rw [List.getElem?_map] at eu1 eu2
        obtain ⟨z1, hz1, rfl⟩ := Option.map_eq_some_iff.mp eu1
        obtain ⟨z2, hz2, rfl⟩ := Option.map_eq_some_iff.mp eu2
        refine g_pair (sqT h4) (σ' := [some (.ref a), some (.int n), some (.int z1), some (.int z2)]) rfl ?_
        refine ⟨rfl, ?_⟩
        walk_at "go"
        have hlt : z1 < z2 := by
          rw [List.getElem?_drop, Nat.add_comm] at hz2
          obtain ⟨b1, e1⟩ := List.getElem?_eq_some_iff.mp hz1
          obtain ⟨b2, e2⟩ := List.getElem?_eq_some_iff.mp hz2
          rw [← e1, ← e2]
          exact List.pairwise_iff_getElem.mp hp i (i + 1) b1 b2 (by omega)
        rw [decide_eq_true hlt]
        have ey : y = .bl true := by
          obtain ⟨b, hb, rfl⟩ := List.mem_map.mp (List.mem_of_getElem? hyi)
          rw [List.eq_of_mem_replicate hb]
        rw [ey] at hR
        exact hR _ s4
      · intro D2 H3 hD2 s3 hd2
        walk_at "go"
        refine ⟨D2, _, rfl, sqL hd2, ?_⟩
        rw [rep_all]
        walk_at "go"
        exact q _ (s1.trans (s2.trans s3))
theorem leads_ok {ns : List Int} {n : Int} {L : Nat} (hl : ns.length = L) (l1 : 1 ≤ L) (l3 : L ≤ 3) (h : ∀ z ∈ ns, 0 ≤ z ∧ z < n) : leadsV (ns.map V.int) n = true := by
  unfold leadsV
  rw [List.length_map, decide_eq_true (p := 1 ≤ ns.length) (by omega), decide_eq_true (p := ns.length ≤ 3) (by omega), below_all h]
  rfl
/-- what check_steps asks of steps that are as they should be -/
def OkS (L : Nat) (rows : List (List Int)) : Prop := 1 ≤ rows.length ∧ rows.length ≤ 8 ∧ 1 ≤ L ∧ L ≤ 3 ∧ ∀ r ∈ rows, r.length = L ∧ ∀ z ∈ r, 0 ≤ z ∧ z < (rows.length : Int)
def spSteps (K : PySem.W.Frag) : Sp := fun vs H Q _ => ∃ (v : V) (L : Nat) (rows : List (List Int)), vs = [v] ∧ RowsT K H v rows ∧ OkS L rows ∧ ∀ H', Same H H' → Q .non H'
theorem ok_check_steps (T : TxtP P K mg) : FnOk P w K mg base CX0 4 T.a_check_steps T.fd_check_steps ["steps"] (spSteps K) := by
  refine T.F_check_steps.ok sc_check_steps (fun vs H Q E h => ?_) (fun cdv A outer s H vs Q E hr h => ?_)
  · obtain ⟨v, L, rows, rfl, _⟩ := h
    rfl
  · obtain ⟨v, L, rows, rfl, ⟨a, xs, rfl, hx, hlen, hp⟩, ⟨n1, n8, l1, l3, hrow⟩, q⟩ := h
    refine ⟨_, (pss_cons (ps_if (PW.pt (pw_or (pt_not (pt_val (pe_callB (r := rIsi K) call_isi (by rfl) T.z_isinstance (by decide +kernel) (pa_cons (pv 0) (pa_cons (pe_bltn (v := .ty "tuple") (by rfl) T.z_tuple (by decide +kernel) rfl) pa_nil))))) (pw_or1 (pt_not (pt_chain op_le op_le pe_int (pe_callB (r := rLenU K) call_lenU (by rfl) T.z_len (by decide +kernel) (pa_cons (pv 0) pa_nil)) (pe_glob (v := .int 8) (by rfl) T.g_MOST_STANDS ⟨_, rfl⟩)))))) (pss_one ps_never) pss_nil)
 (pss_one (ps_for PassesOwn.never rfl (pi_enumT (by rfl) T.z_enumerate (pa_cons (pv 0) pa_nil)) (pg_tup rfl (pgs_cons (pg_name (i := 1) sc_check_steps.nd rfl (Or.inl rfl)) (pgs_cons (pg_name (i := 2) sc_check_steps.nd rfl (Or.inl rfl)) pgs_nil)))
 (pss_one (ps_if (PW.pt (pw_or (pt_not (pt_val (pe_call (ok_are_leads T) (hr.mono (by decide)) (by rfl) T.g_are_leads T.F_are_leads.kp T.b_are_leads .nil pass0 (pa_cons (pv 2) (pa_cons (pe_callB (r := rLenU K) call_lenU (by rfl) T.z_len (by decide +kernel) (pa_cons (pv 0) pa_nil)) pa_nil))))) (pw_or1 (pt_cmpR (r := rNeU K) (op_neU hr.units) (pe_callB (r := rLenU K) call_lenU (by rfl) T.z_len (by decide +kernel) (pa_cons (pv 2) pa_nil)) (pe_callB (r := rLenU K) call_lenU (by rfl) T.z_len (by decide +kernel) (pa_cons (pe_ix (r := rIx K) ix_seq (pv 0) pe_int (fun _ _ => rfl)) pa_nil)) (nomark _))))) (pss_one ps_never) pss_nil))))), ?_⟩
    refine st0 (σ' := [some _, none, none]) rfl ?_
    walk_at "go"
    refine isi (tyx_t hx) kb_tt ?_
    walk_at "go"
    refine len_t hx ?_
    walk_at "go"
    refine i_dT (by omega) ?_
    walk_at "go"
    refine i_nd (fun h3 => absurd (show (xs.length : Int) ≤ 8 by omega) h3) (fun _ => ?_)
    walk_at "go"
    refine f_forE ?_
    walk_at "go"
    refine ⟨a, xs, rfl, hx, for_it (walk_enumT (K := K) (xs := xs)) (fun i σ H2 => ∃ y1 y2, σ = [some (.ref a), y1, y2] ∧ Same H H2) ⟨none, none, rfl, Same.refl _⟩ (fun i σ H2 _ h => ?_) (fun i x σ H2 H3 hi h hy => ?_) (fun σ H2 h => ?_)⟩
    · obtain ⟨_, _, _, s⟩ := h
      exact s.t hx
    · obtain ⟨y1, y2, rfl, s⟩ := h
      obtain ⟨t, u1, u2, rfl, ht, e3, eu1, eu2⟩ := hy
      obtain ⟨s3, h3⟩ := new_same ht e3
      have sx := s.trans s3
      have hr0 : ∃ r, rows[i]? = some r := ⟨rows[i]'(by omega), List.getElem?_eq_getElem (by omega)⟩
      obtain ⟨r, hri⟩ := hr0
      obtain ⟨b, rfl, hb⟩ := (hp i u2 r eu2 hri).nl sx.nl
      obtain ⟨hrl, hrz⟩ := hrow r (List.mem_of_getElem? hri)
      have hx0 : ∃ x0, xs[0]? = some x0 := ⟨xs[0]'(by omega), List.getElem?_eq_getElem (by omega)⟩
      obtain ⟨x0, hx0⟩ := hx0
      have hr0 : ∃ r, rows[0]? = some r := ⟨rows[0]'(by omega), List.getElem?_eq_getElem (by omega)⟩
      obtain ⟨r0, hr0⟩ := hr0
      obtain ⟨b0, rfl, hb0⟩ := hp 0 x0 r0 hx0 hr0
      have hr0l := (hrow r0 (List.mem_of_getElem? hr0)).1
      refine g_pair (sqT h3) (σ' := [some (.ref a), some u1, some (.ref b)]) rfl ?_
      walk_at "go"
      refine len_t (sx.t hx) ?_
      walk_at "go"
      refine ⟨_, _, rfl, .inl ⟨b, _, rfl, hb, ?_, ?_, fun H4 s4 => ?_⟩⟩
      · rw [List.length_map]
        omega
      · intro y hy
        obtain ⟨z, _, rfl⟩ := List.mem_map.mp hy
        exact kd_int z
      · rw [leads_ok hrl l1 l3 (by
          intro z hz
          rw [hlen]
          exact hrz z hz)]
        walk_at "go"
        refine len_t (s4.t hb) ?_
        walk_at "go"
        refine ix_t ((sx.trans s4).t hx) (atI_nat (j := 0) hx0) ?_
        walk_at "go"
        refine len_t ((sx.trans s4).t hb0) ?_
        walk_at "go"
        refine i_nd (fun ne => absurd ?_ ne) (fun _ => ?_)
        · rw [List.length_map, List.length_map, hrl, hr0l]
        · walk_at "go"
          exact ⟨_, _, rfl, sx.trans s4⟩
    · obtain ⟨y1, y2, rfl, s⟩ := h
      exact q _ s
def spInit (C : Addr) (K : PySem.W.Frag) : Sp := fun vs H Q _ => ∃ (p dx : Addr) (v vg : V) (L : Nat) (rows : List (List Int)) (gs : List Int), vs = [.ref p, v, vg] ∧ H p = some (.ins C dx []) ∧ RowsT K H v rows ∧ IntsT K H vg gs ∧ OkM L rows gs ∧
  ∀ H', MachAt C K H' (.ref p) rows gs → But [p] H H' → Q .non H'
theorem mk_mach {C : Addr} {K : PySem.W.Frag} {H : Hp} {v vg : V} {L : Nat} {rows : List (List Int)} {gs : List Int} {E : XK} {Q : VK} (hv : RowsT K H v rows) (hg : IntsT K H vg gs) (hok : OkM L rows gs)
    (q : ∀ x H', H x = none → Same H H' → MachAt C K H' (.ref x) rows gs → Q (.ref x) H') : mkO C (spInit C K) E Q [v, vg] H := by
  intro x dx nx ndx nex
  have e5 : Same H (upd (upd H dx (.own x)) x (.ins C dx [])) := fun b o e => by
    rw [upd_ne (ne_of_none e nx), upd_ne (ne_of_none e ndx)]
    exact e
  refine ⟨x, dx, v, vg, L, rows, gs, rfl, upd_same, hv.nl e5.nl, hg.nl e5.nl, hok, fun H5 hM bt => ⟨rfl, ?_⟩⟩
  refine q x H5 nx (fun b o e => bt b o (e5 b o e) fun mm => ?_) hM
  rw [List.mem_singleton.mp mm, nx] at e
  cases e
theorem ok_Machine_init (T : TxtP P K mg) : FnOk P w K mg base CX0 5 T.a_Machine_init T.fd_Machine_init ["self", "steps", "good"] (spInit T.C_Machine K) := by
  refine T.F_Machine_init.ok sc_Machine_init (fun vs H Q E h => ?_) (fun cdv A outer s H vs Q E hr h => ?_)
  · obtain ⟨p, dx, v, vg, L, rows, gs, rfl, _⟩ := h
    rfl
  · obtain ⟨p, dx, v, vg, L, rows, gs, rfl, hp, hv, hg, hok, q⟩ := h
    refine ⟨_, (pss_cons (ps_expr (pe_call (ok_check_steps T) (hr.mono (by decide)) (by rfl) T.g_check_steps T.F_check_steps.kp T.b_check_steps .nil pass0 (pa_cons (pv 1) pa_nil)))
 (pss_cons (ps_expr (pe_call (ok_check_good T) (hr.mono (by decide)) (by rfl) T.g_check_good T.F_check_good.kp T.b_check_good .nil pass0 (pa_cons (pv 2) (pa_cons (pe_callB (r := rLenU K) call_lenU (by rfl) T.z_len (by decide +kernel) (pa_cons (pv 1) pa_nil)) pa_nil))))
 (pss_cons (ps_fld (pv 0) (pv 1) rfl)
 (pss_one (ps_fld (pv 0) (pv 2) rfl))))), ?_⟩
    refine st0 (σ' := [some _, some _, some _]) rfl ?_
    walk_at "go"
    refine ⟨v, L, rows, rfl, hv, ⟨hok.n1, hok.n8, hok.l1, hok.l3, hok.row⟩, fun H1 s1 => ?_⟩
    walk_at "go"
    obtain ⟨a, xs, rfl, hx, hlen, hxp⟩ := id hv
    refine len_t (s1.t hx) ?_
    walk_at "go"
    refine ⟨vg, _, gs, rfl, hg.nl s1.nl, hok.gl, ?_, hok.asc, fun H2 s2 => ?_⟩
    · intro z hz
      rw [hlen]
      exact hok.gd z hz
    · have s3 := s1.trans s2
      walk_at "go"
      refine ⟨.ref a, rfl, .ref p, rfl, p, T.C_Machine, dx, [], rfl, s3 _ _ hp, T.c_Machine, T.n_Machine__steps, by decide, ?_⟩
      walk_at "go"
      refine ⟨vg, rfl, .ref p, rfl, p, T.C_Machine, dx, _, rfl, upd_same, T.c_Machine, T.n_Machine__good, (by show 1 < 1000; decide), ?_⟩
      walk_at "go"
      have bt : But [p] H (upd (upd H2 p (.ins T.C_Machine dx (putF "_steps" (.ref a) []))) p (.ins T.C_Machine dx (putF "_good" vg (putF "_steps" (.ref a) [])))) := by
        intro b o hb nb
        have nb' : b ≠ p := fun e => nb (by rw [e]; exact List.mem_cons_self)
        rw [upd_ne nb', upd_ne nb']
        exact s3 _ _ hb
      have nb : ∀ (t : Addr) (ys : List V), SqT K H t ys → SqT K (upd (upd H2 p (.ins T.C_Machine dx (putF "_steps" (.ref a) []))) p (.ins T.C_Machine dx (putF "_good" vg (putF "_steps" (.ref a) [])))) t ys := by
        intro t ys ht
        rcases ht with (ht | ⟨o, ht⟩) | ht
        · exact .inl (.inl (bt _ _ ht fun m => by
            rw [List.mem_singleton.mp m, hp] at ht
            cases ht))
        · exact .inl (.inr ⟨o, bt _ _ ht fun m => by
            rw [List.mem_singleton.mp m, hp] at ht
            cases ht⟩)
        · exact .inr ht
      refine q _ ⟨⟨p, dx, .ref a, vg, rfl, upd_same, ⟨a, xs, rfl, nb _ _ hx, hlen, ?_⟩, ?_⟩⟩ bt
      · intro i x r h1 h2
        obtain ⟨b, rfl, hb⟩ := hxp i x r h1 h2
        exact ⟨b, rfl, nb _ _ hb⟩
      · obtain ⟨b, rfl, hb⟩ := hg
        exact ⟨b, rfl, nb _ _ hb⟩
/-! ### read -/
theorem f_forR2 {tr : TA} {g : TG} {tb : TS} {D : Ends} {σ : L2.St} {H : Hp} (q : tr σ H fun vs H1 => ∃ i j : Int, vs = [.int i, .int j] ∧ (-(2 ^ 62) ≤ i ∧ i < 2 ^ 62 ∧ -(2 ^ 62) ≤ j ∧ j < 2 ^ 62) ∧ ∃ W : Nat → Nat → L2.St → Hp → Prop, (∃ m, W 0 m σ H1) ∧ ∀ n m σ H, W n m σ H →
  ((Itr i (j - i).toNat).stop n H ∧ D.nx σ H) ∨ ((Itr i (j - i).toNat).go n H ∧ ∃ N : L2.St → Hp → Prop, (∀ σ' H', N σ' H' → ∃ m', m' < m ∧ W (n + 1) m' σ' H') ∧ ∀ x H', (Itr i (j - i).toNat).yld n H x H' → g x σ H' fun σ2 H2 => tb { D with nx := N, ct := N, bk := D.nx } σ2 H2)) : tFor (iRng2 tr) g tb D σ H := q
def spRead (C : Addr) : Sp := fun vs H Q E => ∃ lines : List Str, vs = [.str (Txt.join ("\n" : Str) lines)] ∧ lines ≠ [] ∧ lines.length ≤ 900 ∧ (∀ z ∈ lines, Ln 900 z) ∧
  (flt (lines.map wordsOf) = none → ∀ x H', Same H H' → Q x H') ∧ (∀ l w, flt (lines.map wordsOf) = some (l, w) → ∀ d H', H d = none → Same H H' → H' d = some (.xd (itf l w)) → E (.ref C) (some d) H')
theorem getD_take {α : Type} {l : List α} {k j : Nat} {d : α} (h : j < k) : (l.take k).getD j d = l.getD j d := by
  rw [List.getD_eq_getElem?_getD, List.getD_eq_getElem?_getD, List.getElem?_take, if_pos h]
theorem e_lcEn {K : PySem.W.Frag} {tr : TA} {g : TG} {tt : TT} {te : TE} {ws : List Nat} {σ : L2.St} {H : Hp} {Q : VK} (q : tr σ H fun vs H1 => ∃ a xs, vs = [.ref a] ∧ SqL K H1 a xs ∧ ∀ D, H1 D = none → ∃ W : Nat → Nat → Hp → Prop, (∃ m, W 0 m (upd H1 D (.lst []))) ∧ ∀ i m H, W i m H →
  ((Ite K a).stop i H ∧ Q (.ref D) H) ∨ ((Ite K a).go i H ∧ ∃ Nx : Hp → Prop, (∀ H', Nx H' → ∃ m', m' < m ∧ W (i + 1) m' H') ∧ ∀ x H', (Ite K a).yld i H x H' → g x (wipe σ ws) H' fun σ2 H2 => wipe σ2 ws = wipe σ ws ∧ tt σ2 H2 fun b H3 =>
    if b = true then te σ2 H3 fun y H4 => ∃ acc, H4 D = some (.lst acc) ∧ acc.length < sizeLine ∧ Nx (upd H4 D (.lst (acc ++ [y]))) else Nx H3)) : tLc (iEnum K tr) g tt te ws σ H Q := q
theorem kept_int (is : List Nat) (ys : List V) (hl : ys.length = is.length) (h : ∀ (j i : Nat) (v : V), is[j]? = some i → ys[j]? = some v → v = .int (i : Nat)) : ys = (is.map fun (i : Nat) => ((i : Nat) : Int)).map V.int := by
  refine List.ext_getElem? fun j => ?_
  rw [List.map_map, List.getElem?_map]
  by_cases hj : j < is.length
  · have e1 : is[j]? = some is[j] := List.getElem?_eq_getElem hj
    have e2 : ys[j]? = some (ys[j]'(by omega)) := List.getElem?_eq_getElem (by omega)
    rw [e1, e2, h j _ _ e1 e2]
    rfl
  · rw [List.getElem?_eq_none (by omega), List.getElem?_eq_none (by omega)]
    rfl
theorem ok_read (T : TxtP P K mg) : FnOk P w K mg base (L2.CX P w) 7 T.a_read T.fd_read ["text"] (spRead T.C_InvalidText) := by
  refine T.F_read.okX sc_read (fun vs H Q E h => ?_) (fun cdv A outer s H vs Q E hr h => ?_)
  · obtain ⟨lines, rfl, _⟩ := h
    rfl
  · obtain ⟨lines, rfl, hne, hn9, hLn, q, qx⟩ := h
    refine ⟨_, (pss_cons (ps_set (i := 1) sc_read.nd rfl (Or.inl rfl) (pe_split (pv 0) pe_str))
 (pss_cons (ps_setLc (i := 2) (own := [("line", 6)]) (g := (gName 6)) (tt := tYes) rfl sc_read.nd rfl rfl (sw_true rfl rfl rfl (by decide +kernel)) (pi_seq (pe_slice (r := rSlU K) sl_U (pv 1) po_none (po_some (pe_glob (v := .int 8) (by rfl) T.g_MOST_STANDS ⟨_, rfl⟩)))) (blkOk_by (N := ["text", "lines", "rows", "letters", "index", "steps", "line", "words", "goal", "stand"]) (sc := defScope s_read) (by decide +kernel)) (fun _ _ _ _ _ => (pg_name (i := 6) sc_read.nd rfl (Or.inl rfl))) (fun _ _ _ _ _ => pts_nil) (fun _ _ _ _ _ => (pe_call (ok_words_of T) (hr.mono (by decide)) (by rfl) T.g_words_of T.F_words_of.kp T.b_words_of .nil pass0 (pa_cons (pv 6) pa_nil))))
 (pss_cons (ps_expr (pe_call (ok_check_words T) (hr.mono (by decide)) (by rfl) T.g_check_words T.F_check_words.kp T.b_check_words .nil (passes_call (takes_of rfl rfl rfl rfl) (fun _ _ _ _ h => h)) (pa_cons (pv 2) (pa_cons pe_int (pa_cons pe_int (pa_cons (pe_glob (v := .int 3) (by rfl) T.g_MOST_LETTERS ⟨_, rfl⟩) pa_nil))))))
 (pss_cons (ps_set (i := 3) sc_read.nd rfl (Or.inl rfl) (pe_op op_sub (pe_callB (r := rLenU K) call_lenU (by rfl) T.z_len (by decide +kernel) (pa_cons (pe_ix (r := rIx K) ix_seq (pv 2) pe_int (fun _ _ => rfl)) pa_nil)) pe_int))
 (pss_cons (ps_for (passes_of rfl) rfl (pi_range2 rfl T.z_range (pa_cons pe_int (pa_cons (pe_callB (r := rLenU K) call_lenU (by rfl) T.z_len (by decide +kernel) (pa_cons (pv 2) pa_nil)) pa_nil))) (pg_name (i := 4) sc_read.nd rfl (Or.inl rfl))
 (pss_one (ps_expr (pe_call (ok_check_words T) (hr.mono (by decide)) (by rfl) T.g_check_words T.F_check_words.kp T.b_check_words .nil (passes_call (takes_of rfl rfl rfl rfl) (fun _ _ _ _ h => h)) (pa_cons (pv 2) (pa_cons (pv 4) (pa_cons (pv 3) (pa_cons (pv 3) pa_nil))))))))
 (pss_cons (ps_if (pt_cmpR op_gt (pe_callB (r := rLenU K) call_lenU (by rfl) T.z_len (by decide +kernel) (pa_cons (pv 1) pa_nil)) (pe_glob (v := .int 8) (by rfl) T.g_MOST_STANDS ⟨_, rfl⟩) (nomark _)) (pss_one (ps_raise rfl (takes_of rfl rfl rfl rfl) (pmk_oex T.x_InvalidText T.i_InvalidText T.t_InvalidText_init (ok_InvalidText_init T) (hr.mono (by decide)) T.b_InvalidText_init .nil pass0 (by rfl) T.g_InvalidText (pa_cons (pe_op (r := rAddU K) op_addU (pe_glob (v := .int 8) (by rfl) T.g_MOST_STANDS ⟨_, rfl⟩) pe_int) (pa_cons pe_int pa_nil))))) pss_nil)
 (pss_cons (ps_set (i := 5) sc_read.nd rfl (Or.inl rfl) (pe_callTy (r := rTupU K) call_tupU (by rfl) T.z_tuple (by decide +kernel) (pa_cons (pe_lc (own := [("words", 7)]) (g := (gName 7)) (tt := tYes) rfl sc_read.nd (pi_seq (pv 2)) (blkOk_by (N := ["text", "lines", "rows", "letters", "index", "steps", "line", "words", "goal", "stand"]) (sc := defScope s_read) (by decide +kernel)) (fun _ _ _ _ _ => (pg_name (i := 7) sc_read.nd rfl (Or.inl rfl))) (fun _ _ _ _ _ => pts_nil) (fun _ _ _ _ _ => (pe_callTy (r := rTupU K) call_tupU (by rfl) T.z_tuple (by decide +kernel) (pa_cons (pe_lc (own := [("goal", 8)]) (g := (gName 8)) (tt := tYes) rfl sc_read.nd (pi_seqN (K := K) (by rfl) (pe_slice (r := rSlU K) sl_U (pv 7) (po_some pe_int) po_none)) (blkOk_by (by rfl)) (fun _ _ _ _ _ => (pg_name (i := 8) sc_read.nd rfl (Or.inl rfl))) (fun _ _ _ _ _ => pts_nil) (fun _ _ _ _ _ => (pe_callTy call_int_str (by rfl) T.z_int (by decide +kernel) (pa_cons (pv 8) pa_nil)))) pa_nil)))) pa_nil)))
 (pss_one (ps_ret (pe_make T.m_Machine (ok_Machine_init T) (hr.mono (by decide)) (by rfl) T.g_Machine T.b_Machine_init .nil pass0 (pa_cons (pv 5) (pa_cons (pe_callTy (r := rTupU K) call_tupU (by rfl) T.z_tuple (by decide +kernel) (pa_cons (pe_lc (own := [("stand", 9), ("words", 7)]) (g := (gTup K 2 (gCons (gName 9) (gCons (gName 7) gNil)))) rfl sc_read.nd (pi_enum (by rfl) T.z_enumerate (pa_cons (pv 2) pa_nil)) (blkOk_by (N := ["text", "lines", "rows", "letters", "index", "steps", "line", "words", "goal", "stand"]) (sc := defScope s_read) (by decide +kernel)) (fun _ _ _ _ _ => (pg_tup rfl (pgs_cons (pg_name (i := 9) sc_read.nd rfl (Or.inl rfl)) (pgs_cons (pg_name (i := 7) sc_read.nd rfl (Or.inl rfl)) pgs_nil)))) (fun _ _ _ _ _ => pts_one (pt_cmpR (r := rEqU K) (op_eqU hr.units) (pe_ix (r := rIx K) ix_seq (pv 7) pe_int (fun _ _ => rfl)) (pe_glob (v := .str "good") (by rfl) T.g_GOOD ⟨_, rfl⟩) (nomark _))) (fun _ _ _ _ _ => (pv 9))) pa_nil)) pa_nil)))))))))))), ?_⟩
    refine st0 (σ' := [some _, none, none, none, none, none, none, none, none, none]) rfl ?_
    generalize ht : (Txt.join ("\n" : Str) lines) = t
    walk_at "go"
    refine e_m1 ?_
    walk_at "go"
    refine ⟨⟨_, rfl⟩, ?_⟩
    walk_at "go"
    have hz : sizeLine = 16777216 := sizeLine_eq
    have hjl : t.length + 2 ≤ sizeLine := by
      have h1 := join_len ("\n" : Str) lines
      have h2 := lines_len hLn
      have e : ("\n" : Str).length = 1 := by decide +kernel
      rw [e, ht] at h1
      have : lines.length * 900 ≤ 900 * 900 := Nat.mul_le_mul_right _ hn9
      omega
    refine ⟨t, ("\n" : Str), rfl, rfl, by decide +kernel, hjl, fun pl hpl => ?_⟩
    have s1 : Same H (upd H pl (.lst ((Txt.split t ("\n" : Str)).map V.str))) := same_upd hpl
    have h1 : (upd H pl (.lst ((Txt.split t ("\n" : Str)).map V.str))) pl = some (.lst (lines.map V.str)) := by
      rw [upd_same, ← ht, lines_back hne hLn]
    generalize (upd H pl (.lst ((Txt.split t ("\n" : Str)).map V.str))) = H1 at s1 h1 ⊢
    walk_at "go"
    refine e_lcL ?_
    walk_at "go"
    refine sl_l (sqL h1) fun p8 H2 hp8 s2 h2 => ?_
    rw [show (8 : Int) = ((8 : Nat) : Int) from rfl, cut_take, ← List.map_take] at h2
    refine ⟨p8, rfl, ⟨_, sqL h2⟩, ?_⟩
    have hl8 : (lines.take 8).length = min 8 lines.length := List.length_take
    have hpos : 0 < lines.length := List.length_pos_iff.mpr hne
    refine comp_d (walk_list (K := K) (xs := (lines.take 8).map V.str)) (fun D i v H => ∃ b z, v = .ref b ∧ b ≠ D ∧ lines[i]? = some z ∧ H b = some (.lst ((wordsOf z).map V.str)))
      (σw := [some (.str t), some (.ref pl), none, none, none, none, none, none, none, none]) (fun D i v H H' s h => ?_) rfl (by rw [List.length_map]; omega) (fun H' s => sqL (s _ _ h2)) (fun D i x H3 H4 R hi hD s3 hy k => ?_) (fun i H x H' h => by obtain ⟨rfl, _⟩ := h; exact Same.refl _) fun D H3 ys hD s3 hd hyl hyp => ?_
    · obtain ⟨b, z, e1, e2, e3, e4⟩ := h
      exact ⟨b, z, e1, e2, e3, s _ _ e4 fun m => e2 (List.mem_singleton.mp m)⟩
    · obtain ⟨rfl, hxi⟩ := hy
      rw [List.length_map] at hi
      have hz' : (lines.take 8)[i]? = some (lines.take 8)[i] := List.getElem?_eq_getElem hi
      rw [List.getElem?_map, hz'] at hxi
      cases hxi
      rw [List.getElem?_take, if_pos (by omega)] at hz'
      walk_at "go"
      refine ⟨rfl, ?_⟩
      walk_at "go"
      refine ⟨_, rfl, (hLn _ (List.mem_of_getElem? hz')).ln, fun p H5 hp s5 h5 => ?_⟩
      refine k _ _ s5 ⟨p, _, rfl, fun e => ?_, hz', h5⟩
      obtain ⟨acc, ha⟩ := hD
      rw [e, ha] at hp
      cases hp
    · rw [List.length_map] at hyl
      have sB := s1.trans (s2.trans s3)
      have hd' := hd
      have hrw : Rws H3 (.ref D) ((lines.take 8).map wordsOf) := ⟨D, ys, rfl, hd, by rw [hyl, List.length_map], fun i x ws hx hws => by
        obtain ⟨b, z, e1, _, e3, e4⟩ := hyp i x hx
        have hi := (List.getElem?_eq_some_iff.mp hx).1
        rw [List.getElem?_map, List.getElem?_take, if_pos (by omega), e3] at hws
        cases hws
        exact ⟨b, e1, e4⟩⟩
      have hr8l : ((lines.take 8).map wordsOf).length = min lines.length 8 := by rw [List.length_map, hl8, Nat.min_comm]
      have hget : ∀ j, j < lines.length → (lines.map wordsOf)[j]? = some (wordsOf (lines.getD j "")) := fun j hj => by
        rw [List.getElem?_map, List.getElem?_eq_getElem hj]
        rw [getD_of (List.getElem?_eq_getElem hj)]
        rfl
      have hget8 : ∀ j, j < lines.length → j < 8 → ((lines.take 8).map wordsOf)[j]? = some (wordsOf (lines.getD j "")) := fun j hj h8 => by
        rw [← hget j hj, List.getElem?_map, List.getElem?_map, List.getElem?_take, if_pos h8]
      have hgd : ∀ j, j < lines.length → (lines.map wordsOf).getD j [] = wordsOf (lines.getD j "") := fun j hj => getD_of (hget j hj)
      have hwl : ∀ j, j < lines.length → (wordsOf (lines.getD j "")).length ≤ 901 := fun j hj => by
        have := words_len (lines.getD j "")
        have h9 : (lines.getD j "").length ≤ 900 := by
          rw [getD_of (List.getElem?_eq_getElem hj)]
          exact (hLn _ (List.getElem_mem hj)).ln
        omega
      have hnl : min (lines.map wordsOf).length 8 = min lines.length 8 := by rw [List.length_map]
      walk_at "go"
      refine ⟨.ref D, (lines.take 8).map wordsOf, 0, 1, 3, _, rfl, hrw, by omega, hget8 0 hpos (by omega), by have := hwl 0 hpos; omega, fun hw0 H4 s4 => ?_, fun w hw0 d H4 hd4 s4 hx4 => ?_⟩
      · have f0 : fk (lines.map wordsOf) 0 = none := by
          rw [fk_zero, hnl, hgd 0 hpos, ← hr8l]
          exact hw0
        obtain ⟨l1, l3⟩ := first_ok f0
        walk_at "go"
        have hx0 : ∃ x, ys[0]? = some x := ⟨ys[0]'(by omega), List.getElem?_eq_getElem (by omega)⟩
        obtain ⟨x0, hx0⟩ := hx0
        obtain ⟨b0, z0, rfl, _, hz0, hb0⟩ := hyp 0 x0 hx0
        refine ix_l (sqL (s4 _ _ hd)) (atI_nat (j := 0) hx0) ?_
        walk_at "go"
        refine len_l (sqL (s4 _ _ hb0)) ?_
        walk_at "go"
        rw [List.length_map]
        have eL : ((wordsOf z0).length : Int) - 1 = (((lines.map wordsOf).getD 0 []).length - 1 : Nat) := by
          have e : (lines.map wordsOf).getD 0 [] = wordsOf z0 := by
            rw [hgd 0 hpos, getD_of hz0]
          rw [e] at l1 ⊢
          omega
        rw [eL]
        generalize hL : ((lines.map wordsOf).getD 0 []).length - 1 = L at l1 l3 ⊢
        refine f_forR2 ?_
        walk_at "go"
        refine len_l (sqL (s4 _ _ hd)) ?_
        walk_at "go"
        rw [hyl, hl8]
        refine ⟨1, _, rfl, ⟨by omega, by omega, by omega, by omega⟩, ?_⟩
        rw [show (((min 8 lines.length : Nat) : Int) - 1).toNat = min 8 lines.length - 1 by omega]
        refine for_it walk_rng (fun i σ H5 => ∃ y1, σ = [some (.str t), some (.ref pl), some (.ref D), some (.int (L : Nat)), y1, none, none, none, none, none] ∧ Same H3 H5 ∧ ∀ j, j < 1 + i → fk (lines.map wordsOf) j = none)
          ⟨none, rfl, s4, fun j hj => by rw [show j = 0 by omega]; exact f0⟩ (fun _ _ _ _ _ => trivial) (fun i x σ H5 H6 hi h hy => ?_) (fun σ H5 h => ?_)
        · obtain ⟨y1, rfl, s5, hold⟩ := h
          obtain ⟨rfl, rfl⟩ := hy
          walk_at "go"
          have hil : 1 + i < lines.length := by omega
          have ef : fk (lines.map wordsOf) (1 + i) = wr ((lines.take 8).map wordsOf).length L L (wordsOf (lines.getD (1 + i) "")) := by
            rw [fk_more (by omega) (by omega) (by rw [hL]; exact l1), hL, hnl, hgd _ hil, ← hr8l]
          refine ⟨.ref D, (lines.take 8).map wordsOf, 1 + i, L, L, _, by rw [Int.natCast_add]; rfl, hrw.same s5, by omega, hget8 _ hil (by omega), by have := hwl _ hil; omega, fun hw H7 s7 => ?_, fun w hw d H7 hd7 s7 hx7 => ?_⟩
          · walk_at "go"
            refine ⟨_, rfl, s5.trans s7, fun j hj => ?_⟩
            by_cases hji : j < 1 + i
            · exact hold j hji
            · rw [show j = 1 + i by omega, ef]
              exact hw
          · refine qx (1 + i + 1) w (flt_some (by rw [List.length_map]; exact hil) (by rw [ef]; exact hw) hold) d H7 (none_of (sB.trans s5) hd7) (sB.trans (s5.trans s7)) hx7
        · obtain ⟨y1, rfl, s5, hold⟩ := h
          walk_at "go"
          refine len_l (sqL ((s2.trans (s3.trans s5)) _ _ h1)) ?_
          walk_at "go"
          rw [List.length_map]
          refine i_d (fun h8 => ?_) (fun h8 => ?_)
          · walk_at "go"
            refine e_mko ?_
            walk_at "go"
            refine bad_out2 (l := 9) (w := 1) rfl rfl (by omega) (by omega) (sB.trans s5) (qx 9 1 ?_)
            refine flt_some (k := 8) (by rw [List.length_map]; omega) (if_pos (by omega)) fun j hj => hold j (by omega)
          · walk_at "go"
            have h8' : lines.length ≤ 8 := by omega
            have ht8 : lines.take 8 = lines := List.take_of_length_le h8'
            have hall : ∀ j, j < (lines.map wordsOf).length → fk (lines.map wordsOf) j = none := fun j hj => hold j (by rw [List.length_map] at hj; omega)
            have hok := okM_of (rows := lines.map wordsOf) (fun e => hne (List.map_eq_nil_iff.mp e)) (by rw [List.length_map]; exact h8') hall
            have hnone := flt_none hall
            have hd5 := s5 _ _ hd
            have hylz : ys.length = lines.length := by rw [hyl, ht8]
            refine e_lcL ?_
            walk_at "go"
            refine ⟨D, rfl, ⟨_, sqL hd5⟩, ?_⟩
            refine comp_d (walk_list (K := K) (xs := ys)) (fun D i v H => ∃ b z, v = .ref b ∧ b ≠ D ∧ lines[i]? = some z ∧ H b = some (.tup ((rowI (wordsOf z)).map V.int)))
              (σw := [some (.str t), some (.ref pl), some (.ref D), some (.int (L : Nat)), y1, none, none, none, none, none]) (fun D i v H H' s h => ?_) rfl (by omega) (fun H' s => sqL (s _ _ hd5)) (fun D2 i x H6 H7 R hi hD2 s6 hy k => ?_) (fun i H x H' h => by obtain ⟨rfl, _⟩ := h; exact Same.refl _) fun D2 H6 zs hD2 s6 hd6 hzl hzp => ?_
            · obtain ⟨b, z, e1, e2, e3, e4⟩ := h
              exact ⟨b, z, e1, e2, e3, s _ _ e4 fun m => e2 (List.mem_singleton.mp m)⟩
            · obtain ⟨rfl, hxi⟩ := hy
              obtain ⟨b, z, rfl, _, hzi, hb⟩ := hyp i x hxi
              have hrow : (lines.map wordsOf)[i]? = some (wordsOf z) := by rw [List.getElem?_map, hzi]; rfl
              obtain ⟨_, hval⟩ := each_ok (by rw [List.length_map]; exact h8') hall hrow
              walk_at "go"
              refine ⟨rfl, ?_⟩
              walk_at "go"
              refine e_lcL ?_
              walk_at "go"
              refine sl_l (sqL (s6 _ _ (s5 _ _ hb))) fun p1 H8 hp1 s8 h8 => ?_
              rw [show (1 : Int) = ((1 : Nat) : Int) from rfl, cut_drop, ← List.map_drop] at h8
              refine ⟨p1, rfl, ⟨_, sqL h8⟩, ?_⟩
              have hzw : (wordsOf z).length ≤ 901 := by
                have := words_len z
                have := (hLn z (List.mem_of_getElem? hzi)).ln
                omega
              refine comp_p (walk_list (K := K) (xs := ((wordsOf z).drop 1).map V.str)) (σw := [some (.str t), some (.ref pl), some (.ref D), some (.int (L : Nat)), y1, none, none, some (.ref b), none, none]) ((rowI (wordsOf z)).map V.int) (by unfold rowI; simp) rfl (by rw [List.length_map, List.length_drop]; omega) (fun H' s => sqL (s _ _ h8)) (fun i2 x y H9 H10 R2 hi2 hyi s9 hy k2 => ?_) fun D3 H9 hD3 s9 hd9 => ?_
              · obtain ⟨rfl, hxi2⟩ := hy
                rw [List.length_map] at hi2
                have hw : ((wordsOf z).drop 1)[i2]? = some ((wordsOf z).drop 1)[i2] := List.getElem?_eq_getElem hi2
                rw [List.getElem?_map, hw] at hxi2
                cases hxi2
                obtain ⟨n, hn, hv, hwl2⟩ := hval _ (List.mem_of_getElem? hw)
                have ey : y = .int (n : Nat) := by
                  unfold rowI at hyi
                  rw [List.getElem?_map, List.getElem?_map, hw] at hyi
                  have := (Option.some.inj hyi).symm
                  rw [this, val_of hv]
                subst ey
                walk_at "go"
                refine ⟨rfl, ?_⟩
                walk_at "go"
                exact ⟨_, _, rfl, hv, hwl2, k2 _ (Same.refl _)⟩
              · walk_at "go"
                refine tup_l (sqL hd9) fun l H10 nl s10 h10 _ => ?_
                refine k _ _ (s8.trans (s9.trans s10)) ⟨l, z, rfl, fun e => ?_, hzi, h10⟩
                obtain ⟨acc, ha⟩ := hD2
                rw [e, s9 _ _ (s8 _ _ ha)] at nl
                cases nl
            · walk_at "go"
              refine tup_l (sqL hd6) fun st H7 nst s7 h7 _ => ?_
              walk_at "go"
              refine e_lcEn ?_
              walk_at "go"
              have hd7 := s7 _ _ (s6 _ _ hd5)
              refine ⟨D, ys, rfl, sqL hd7, ?_⟩
              refine comp_g (walk_enumL (K := K) (xs := ys)) (fun _ i v _ => v = .int (i : Nat)) (isGood (lines.map wordsOf)) (σw := [some (.str t), some (.ref pl), some (.ref D), some (.int (L : Nat)), y1, some (.ref st), none, none, none, none]) (fun _ _ _ _ _ _ h => h) rfl (by omega) (fun H' s => sqL (s _ _ hd7)) (fun D4 i x H8 H9 R hi _ _ s8 hy k => ?_) fun D4 H8 gs hD4 s8 hd8 hgl hgp => ?_
              · obtain ⟨tt, u1, u2, rfl, htt, e9, eu1, eu2⟩ := hy
                obtain ⟨s9, h9⟩ := new_same htt e9
                replace eu2 : ys[i]? = some u2 := eu2
                cases eu1
                obtain ⟨b, z, rfl, _, hzi, hb⟩ := hyp i u2 eu2
                have hrow : (lines.map wordsOf)[i]? = some (wordsOf z) := by rw [List.getElem?_map, hzi]; rfl
                obtain ⟨hlen0, _⟩ := each_ok (by rw [List.length_map]; exact h8') hall hrow
                have hw0 : (wordsOf z)[0]? = some ((wordsOf z)[0]'(by omega)) := List.getElem?_eq_getElem (by omega)
                refine g_pair (sqT h9) (σ' := [some (.str t), some (.ref pl), some (.ref D), some (.int (L : Nat)), y1, some (.ref st), none, some (.ref b), none, some (.int (i : Nat))]) rfl ?_
                refine ⟨rfl, ?_⟩
                walk_at "go"
                refine ix_l (sqL ((s6.trans (s7.trans (s8.trans s9))) _ _ (s5 _ _ hb))) (atI_nat (j := 0) (by rw [List.getElem?_map, hw0]; rfl)) ?_
                walk_at "go"
                refine eq_s rfl ?_
                walk_at "go"
                refine k _ _ _ ?_ s9 fun _ Q2 hq => ?_
                · unfold isGood
                  rw [getD_of hrow, getD_of hw0]
                  by_cases hg : (wordsOf z)[0]'(by omega) = ("good" : Str)
                  · rw [decide_eq_true hg, hg]
                    rfl
                  · rw [decide_eq_false hg]
                    exact decide_eq_false fun e => hg (V.str.inj e)
                · walk_at "go"
                  exact hq _ _ (Same.refl _) rfl
              · walk_at "go"
                rw [kept_int _ gs hgl hgp] at hd8
                refine tup_l (sqL hd8) fun vg H9 nvg s9 h9 _ => ?_
                walk_at "go"
                refine mk_mach (rows := (lines.map wordsOf).map rowI) (gs := goodsOf (lines.map wordsOf)) ?_ ⟨vg, rfl, sqT ?_⟩ hok fun x H10 _ s10 _ => ?_
                · refine ⟨st, zs, rfl, sqT (s9 _ _ (s8 _ _ h7)), by rw [List.length_map, List.length_map, hzl, hylz], fun i x r h1 h2 => ?_⟩
                  obtain ⟨b, z, e1, _, e3, e4⟩ := hzp i x h1
                  rw [List.getElem?_map, List.getElem?_map, e3] at h2
                  cases h2
                  exact ⟨b, e1, sqT (s9 _ _ (s8 _ _ (s7 _ _ e4)))⟩
                · rw [h9]
                  unfold goodsOf
                  rw [List.length_map, ← hylz]
                · exact q hnone (.ref x) H10 (sB.trans (s5.trans (s6.trans (s7.trans (s8.trans (s9.trans s10))))))
      · refine qx 1 w (flt_some (by rw [List.length_map]; exact hpos) ?_ fun j hj => absurd hj (Nat.not_lt_zero j)) d H4 (none_of sB hd4) (sB.trans s4) hx4
        rw [fk_zero, hnl, hgd 0 hpos, ← hr8l]
        exact hw0
/-! ### what is due -/
/-- the number of the first wrong word, as the law counts it -/
def numV : Option Nat → V
  | none => .non
  | some w => .int (w : Nat)
def spWrong (K : PySem.W.Frag) : Sp := fun vs H Q _ => ∃ (k n s : Nat) (ws : List Str) (b : Addr), vs = [.int (k : Nat), .ref b, .int (n : Nat), .int (s : Nat)] ∧ H b = some (.lst (ws.map V.str)) ∧ ws.length ≤ 950 ∧ n ≤ 8 ∧ s ≤ 950 ∧ (∀ w ∈ ws, ∀ c ∈ TL.tl w, c < 256) ∧
  ∀ H', Same H H' → Q (numV (if 8 ≤ k then some 1 else wr n (max 1 s) (if 0 < s then s else 3) ws)) H'
theorem dp_str {K : PySem.W.Frag} {H : Hp} : ∀ ws : List Str, (∀ w ∈ ws, PyData.canLay0 (.str w) = true) → ∃ ds, DpAll K H (ws.map V.str) ds ∧ PyData.canLayAll0 ds = true ∧ PyData.depthAll ds = 0 ∧ ds = ws.map PyData.str
  | [], _ => ⟨[], .nil, by simp [PyData.canLayAll0], by simp [PyData.depthAll], rfl⟩
  | x :: xs, h => by
    obtain ⟨ds, d1, d2, d3, d4⟩ := dp_str (K := K) (H := H) xs fun y hy => h y (List.mem_cons_of_mem _ hy)
    refine ⟨.str x :: ds, .cons (.str x) d1, ?_, ?_, by rw [d4]; rfl⟩
    · rw [PyData.canLayAll0, h x List.mem_cons_self, d2]
      rfl
    · rw [PyData.depthAll, d3]
      simp [PyData.depth]
theorem or_l {r r' : R2} {x y : V} {H : Hp} {Q : VK} (q : r x y H Q) : rOr r r' x y H Q := .inl q
theorem or_r {r r' : R2} {x y : V} {H : Hp} {Q : VK} (q : r' x y H Q) : rOr r r' x y H Q := .inr q
/-- the row's first word, among those that mark a stand -/
theorem mark_in {K : PySem.W.Frag} {H : Hp} {a b1 b2 l : Addr} {ws : List Str} {Q : VK} (ha : H a = some (.lst ((ws.take 1).map V.str))) (hs : ∀ w ∈ ws, ∀ c ∈ TL.tl w, c < 256)
    (h1 : H b1 = some (.lst [V.str ("good" : Str)])) (h2 : H b2 = some (.lst [V.str ("bad" : Str)])) (hl : H l = some (.lst [.ref b1, .ref b2]))
    (q : Q (.bl (!decide (ws.take 1 = [("good" : Str)] ∨ ws.take 1 = [("bad" : Str)]))) H) : rNotInD K (.ref a) (.ref l) H Q := by
  obtain ⟨ds, d1, d2, d3, d4⟩ := dp_str (K := K) (H := H) (ws.take 1) fun w hw => Ln.ok (M := 0) (hs w (List.mem_of_mem_take hw))
  refine ⟨.list ds, [.list [.str "good"], .list [.str "bad"]], .lst (sqL ha) d1, .lst (sqL hl) (.cons (.lst (sqL h1) (.cons (.str _) .nil)) (.cons (.lst (sqL h2) (.cons (.str _) .nil)) .nil)), ?_, by decide +kernel, ?_⟩
  · unfold SeqAt.shaped
    rw [PyData.canLay0, d2, PyData.depth, d3]
    rfl
  · have e : ([PyData.list [.str "good"], PyData.list [.str "bad"]].any fun z => PyData.eqv z (.list ds)) = decide (ws.take 1 = [("good" : Str)] ∨ ws.take 1 = [("bad" : Str)]) := by
      subst d4
      cases ws with
      | nil => simp [PyData.eqv, PyData.eqvAll]
      | cons w r =>
        rw [List.take_succ_cons, List.take_zero]
        simp only [List.any_cons, List.any_nil, List.map_cons, List.map_nil, PyData.eqv, PyData.eqvAll, Bool.and_true, Bool.or_false]
        by_cases e1 : w = ("good" : Str)
        · subst e1
          simp
        · by_cases e2 : w = ("bad" : Str)
          · subst e2
            simp
          · simp [e1, e2, Ne.symm e1, Ne.symm e2]
    rw [e]
    exact q
theorem mark_iff (ws : List Str) (n m : Nat) : (ws.take 1 = [("good" : Str)] ∨ ws.take 1 = [("bad" : Str)]) ↔ ∃ w r, ws = w :: r ∧ (wordsAt 0 n m).contains w = true := by
  have e : wordsAt 0 n m = [("good" : Str), ("bad" : Str)] := if_pos rfl
  rw [e]
  cases ws with
  | nil => simp
  | cons w r =>
    rw [List.take_succ_cons, List.take_zero]
    constructor
    · intro h
      refine ⟨w, r, rfl, ?_⟩
      rcases h with h | h
      · rw [(List.cons.inj h).1]
        decide +kernel
      · rw [(List.cons.inj h).1]
        decide +kernel
    · rintro ⟨w', r', e', h⟩
      cases e'
      have := List.contains_iff_mem.mp h
      rcases List.mem_cons.mp this with h | h
      · exact .inl (by rw [h])
      · exact .inr (by rw [List.mem_singleton.mp h])
theorem wr_mark {n l m : Nat} {ws : List Str} (h : ¬ (ws.take 1 = [("good" : Str)] ∨ ws.take 1 = [("bad" : Str)])) : wr n l m ws = some 1 := by
  cases ws with
  | nil =>
    unfold wr
    rw [show scan n m 0 ([] : List Str) = none from rfl]
    exact if_pos (by show 0 < 1 + l; omega)
  | cons w r =>
    have hc : ¬ (wordsAt 0 n m).contains w = true := fun hc => h ((mark_iff (w :: r) n m).mpr ⟨w, r, rfl, hc⟩)
    unfold wr
    rw [scan, if_neg hc]
theorem ok__law_wrong (T : TxtP P K mg) : FnOk P w K mg base CX0 1 T.a__law_wrong T.fd__law_wrong ["_law_k", "_law_row", "_law_stands", "_law_steps"] (spWrong K) := by
  refine T.F__law_wrong.ok sc__law_wrong (fun vs H Q E h => ?_) (fun cdv A outer s H vs Q E hr h => ?_)
  · obtain ⟨k, n, s, ws, b, rfl, _⟩ := h
    rfl
  · obtain ⟨k, n, s, ws, b, rfl, hb, hl, hn, hs, hsm, q⟩ := h
    refine ⟨_, (pss_cons (ps_if (PW.pt (pw_or (pt_cmpR op_gt (pv 0) pe_int (nomark _)) (pw_or1 (pt_cmpR (op_or op_notIn_seq (op_notInD (units65 hr))) (pe_slice (r := rSlU K) sl_U (pv 1) po_none (po_some pe_int)) (pe_lst (pa_cons (pe_lst (pa_cons pe_str pa_nil)) (pa_cons (pe_lst (pa_cons pe_str pa_nil)) pa_nil))) (by rfl))))) (pss_one (ps_ret pe_int)) pss_nil)
 (pss_cons (ps_setLc (i := 4) (own := [("_law_stand", 6)]) (g := (gName 6)) (tt := tYes) rfl sc__law_wrong.nd rfl rfl (sw_true rfl rfl rfl (by decide +kernel)) (pi_range1 rfl T.z_range (pa_cons (pv 2) pa_nil)) (blkOk_by (N := ["_law_k", "_law_row", "_law_stands", "_law_steps", "_law_known", "_law_at", "_law_stand"]) (sc := defScope s__law_wrong) (by decide +kernel)) (fun _ _ _ _ _ => (pg_name (i := 6) sc__law_wrong.nd rfl (Or.inl rfl))) (fun _ _ _ _ _ => pts_nil) (fun _ _ _ _ _ => (pe_callTy call_str_int (by rfl) T.z_str (by decide +kernel) (pa_cons (pv 6) pa_nil))))
 (pss_cons (ps_for PassesOwn.never rfl (pi_range2 rfl T.z_range (pa_cons pe_int (pa_cons (pe_callB (r := rLenU K) call_lenU (by rfl) T.z_len (by decide +kernel) (pa_cons (pv 1) pa_nil)) pa_nil))) (pg_name (i := 5) sc__law_wrong.nd rfl (Or.inl rfl))
 (pss_one (ps_if (PW.pt (pw_or (pt_cmpR op_gt (pv 5) (pe_ifExp (pt_cmpR op_gt (pv 3) pe_int (nomark _)) (pv 3) pe_int) (nomark _)) (pw_or1 (pt_cmpR (op_or op_notIn_seq (op_notInD (units65 hr))) (pe_ix (r := rIx K) ix_seq (pv 1) (pv 5) (fun _ _ => rfl)) (pv 4) (by rfl))))) (pss_one (ps_ret (pe_op (r := rAddU K) op_addU (pv 5) pe_int))) pss_nil)))
 (pss_one (ps_ret (pe_ifExp (pt_cmpR op_lt (pe_op op_sub (pe_callB (r := rLenU K) call_lenU (by rfl) T.z_len (by decide +kernel) (pa_cons (pv 1) pa_nil)) pe_int) (pe_callB (call_maxU rfl) (by rfl) T.z_max (by decide +kernel) (pa_cons pe_int (pa_cons (pv 3) pa_nil))) (nomark _)) (pe_op (r := rAddU K) op_addU (pe_callB (r := rLenU K) call_lenU (by rfl) T.z_len (by decide +kernel) (pa_cons (pv 1) pa_nil)) pe_int) pe_non)))))), ?_⟩
    refine st0 (σ' := [some _, some _, some _, some _, none, none, none]) rfl ?_
    walk_at "go"
    refine i_d (fun h8 => ?_) (fun h8 => ?_)
    · walk_at "go"
      have := q _ (Same.refl _)
      rw [if_pos (by omega)] at this
      exact this
    · rw [if_neg (by omega)] at q
      walk_at "go"
      refine sl_l (sqL hb) fun p1 H1 hp1 s1 h1 => ?_
      rw [show (1 : Int) = ((1 : Nat) : Int) from rfl, cut_take, ← List.map_take] at h1
      walk_at "go"
      refine al_l (sz1000 (by show 1 ≤ 1000; decide)) fun b1 H2 n2 s2 h2 _ => ?_
      walk_at "go"
      refine al_l (sz1000 (by show 1 ≤ 1000; decide)) fun b2 H3 n3 s3 h3 _ => ?_
      walk_at "go"
      refine al_l (sz1000 (by show 2 ≤ 1000; decide)) fun l0 H4 n4 s4 h4 _ => ?_
      refine or_r (mark_in (s4 _ _ (s3 _ _ (s2 _ _ h1))) hsm (s4 _ _ (s3 _ _ h2)) (s4 _ _ h3) h4 ?_)
      have sA := s1.trans (s2.trans (s3.trans s4))
      refine ⟨_, rfl, ?_⟩
      refine i_nd (fun hm => ?_) (fun hm => ?_)
      · walk_at "go"
        have := q _ sA
        rw [wr_mark hm] at this
        exact this
      · obtain ⟨w0, r0, ew, hc0⟩ := (mark_iff ws n (if 0 < s then s else 3)).mp hm
        walk_at "go"
        refine e_lcR ?_
        walk_at "go"
        refine ⟨(n : Nat), rfl, by omega, by omega, ?_⟩
        rw [Int.toNat_natCast]
        refine comp_p walk_rng (σw := [some (.int k), some (.ref b), some (.int n), some (.int s), none, none, none]) ((known n).map V.str) (by rw [List.length_map]; unfold known; rw [List.length_map, List.length_range]) rfl (by omega) (fun _ _ => trivial) (fun i x y H5 H6 R hi hyi s5 hy k => ?_) fun D H5 hD s5 hd => ?_
        · obtain ⟨rfl, rfl⟩ := hy
          walk_at "go"
          refine ⟨rfl, ?_⟩
          walk_at "go"
          rw [known_v, List.getElem?_map, List.getElem?_range hi] at hyi
          cases hyi
          rw [Int.zero_add]
          exact ⟨_, rfl, log_small (by omega), k _ (Same.refl _)⟩
        · have sB := sA.trans s5
          walk_at "go"
          have hpos : 0 < ws.length := by rw [ew]; exact Nat.succ_pos _
          generalize hM : (if 0 < s then s else 3) = M at q hc0 ⊢
          refine f_forR2 ?_
          walk_at "go"
          refine len_l (sqL (sB _ _ hb)) ?_
          walk_at "go"
          rw [List.length_map]
          refine ⟨1, _, rfl, ⟨by omega, by omega, by omega, by omega⟩, ?_⟩
          rw [show ((ws.length : Int) - 1).toNat = ws.length - 1 by omega]
          refine for_it walk_rng (fun i σ H6 => ∃ y1, σ = [some (.int k), some (.ref b), some (.int n), some (.int s), some (.ref D), y1, none] ∧ Same H5 H6 ∧ scan n M 0 ws = scan n M (1 + i) (ws.drop (1 + i)))
            ⟨none, rfl, Same.refl _, by rw [ew, scan, if_pos hc0]; rfl⟩ (fun _ _ _ _ _ => trivial) (fun i x σ H6 H7 hi h hy => ?_) (fun σ H6 h => ?_)
          · obtain ⟨y1, rfl, s6, hold⟩ := h
            obtain ⟨rfl, rfl⟩ := hy
            have hil : 1 + i < ws.length := by omega
            have hwi : ws[1 + i]? = some ws[1 + i] := List.getElem?_eq_getElem hil
            have hdr : ws.drop (1 + i) = ws[1 + i] :: ws.drop (1 + i + 1) := List.drop_eq_getElem_cons hil
            rw [hdr, scan] at hold
            walk_at "go"
            have wr_at : scan n M 0 ws = some (1 + i) → wr n (max 1 s) M ws = some (1 + i + 1) := fun e => by
              unfold wr
              rw [e]
            have wr_v : ((1 : Int) + (i : Nat) + 1) = ((1 + i + 1 : Nat) : Int) := by omega
            refine i_d (fun hs0 => ?_) (fun hs0 => ?_)
            · have hMe : M = s := by rw [← hM]; exact if_pos (by omega)
              walk_at "go"
              refine i_d (fun hgt => ?_) (fun hgt => ?_)
              · walk_at "go"
                have hwe : wordsAt (1 + i) n M = [] := by unfold wordsAt; rw [if_neg (by omega), if_neg (by omega)]
                rw [hwe, if_neg (by intro z; cases z)] at hold
                have := q _ (sB.trans s6)
                rw [wr_at hold] at this
                rw [wr_v]
                exact this
              · walk_at "go"
                refine ix_l (sqL ((sB.trans s6) _ _ hb)) (by rw [show (1 : Int) + (i : Nat) = ((1 + i : Nat) : Int) by omega]; exact atI_nat (by rw [List.getElem?_map, hwi]; rfl)) ?_
                walk_at "go"
                refine or_l (not_in (s6 _ _ hd) ?_)
                have hwe : wordsAt (1 + i) n M = known n := by unfold wordsAt; rw [if_neg (by omega), if_pos (by omega)]
                rw [hwe] at hold
                refine ⟨_, rfl, i_nb (fun hc => ?_) (fun hc => ?_)⟩
                · walk_at "go"
                  rw [if_neg (by rw [hc]; exact Bool.false_ne_true)] at hold
                  have := q _ (sB.trans s6)
                  rw [wr_at hold] at this
                  rw [wr_v]
                  exact this
                · walk_at "go"
                  rw [if_pos hc] at hold
                  exact ⟨_, rfl, s6, by rw [hold, show 1 + (i + 1) = 1 + i + 1 by omega]⟩
            · have hMe : M = 3 := by rw [← hM]; exact if_neg (by omega)
              walk_at "go"
              refine i_d (fun hgt => ?_) (fun hgt => ?_)
              · walk_at "go"
                have hwe : wordsAt (1 + i) n M = [] := by unfold wordsAt; rw [if_neg (by omega), if_neg (by omega)]
                rw [hwe, if_neg (by intro z; cases z)] at hold
                have := q _ (sB.trans s6)
                rw [wr_at hold] at this
                rw [wr_v]
                exact this
              · walk_at "go"
                refine ix_l (sqL ((sB.trans s6) _ _ hb)) (by rw [show (1 : Int) + (i : Nat) = ((1 + i : Nat) : Int) by omega]; exact atI_nat (by rw [List.getElem?_map, hwi]; rfl)) ?_
                walk_at "go"
                refine or_l (not_in (s6 _ _ hd) ?_)
                have hwe : wordsAt (1 + i) n M = known n := by unfold wordsAt; rw [if_neg (by omega), if_pos (by omega)]
                rw [hwe] at hold
                refine ⟨_, rfl, i_nb (fun hc => ?_) (fun hc => ?_)⟩
                · walk_at "go"
                  rw [if_neg (by rw [hc]; exact Bool.false_ne_true)] at hold
                  have := q _ (sB.trans s6)
                  rw [wr_at hold] at this
                  rw [wr_v]
                  exact this
                · walk_at "go"
                  rw [if_pos hc] at hold
                  exact ⟨_, rfl, s6, by rw [hold, show 1 + (i + 1) = 1 + i + 1 by omega]⟩
          · obtain ⟨y1, rfl, s6, hold⟩ := h
            have hz : scan n M 0 ws = none := by
              rw [hold, List.drop_eq_nil_of_le (by omega)]
              rfl
            walk_at "go"
            refine len_l (sqL ((sB.trans s6) _ _ hb)) ?_
            walk_at "go"
            rw [List.length_map]
            have hq := q _ (sB.trans s6)
            unfold wr at hq
            rw [hz] at hq
            refine i_d (fun hlt => ?_) (fun hlt => ?_)
            · walk_at "go"
              refine len_l (sqL ((sB.trans s6) _ _ hb)) ?_
              walk_at "go"
              rw [List.length_map]
              rw [if_pos (by split at hlt <;> omega)] at hq
              exact hq
            · walk_at "go"
              rw [if_neg (by split at hlt <;> omega)] at hq
              exact hq
/-! ### _law_due, _law_answer -/
/-- what is told of a text -/
def AnsAt (H : Hp) (x : V) : Option (Nat × Nat) → Prop
  | none => x = .non
  | some (l, w) => ∃ p, x = .ref p ∧ H p = some (.tup [.int (l : Nat), .int (w : Nat)])
def spDue (K : PySem.W.Frag) : Sp := fun vs H Q _ => ∃ (a : Addr) (lines : List Str), vs = [.ref a] ∧ H a = some (.lst (lines.map V.str)) ∧ lines ≠ [] ∧ lines.length ≤ 900 ∧ (∀ z ∈ lines, Ln 900 z) ∧ ∀ x H', Same H H' → AnsAt H' x (flt (lines.map wordsOf)) → Q x H'
theorem words_sm {M : Nat} {z : Str} (h : Ln M z) : ∀ w ∈ wordsOf z, ∀ c ∈ TL.tl w, c < 256 := fun w hw => splS_sm h w (List.mem_filter.mp hw).1
theorem ok__law_due (T : TxtP P K mg) : FnOk P w K mg base CX0 2 T.a__law_due T.fd__law_due ["_law_lines"] (spDue K) := by
  refine T.F__law_due.ok sc__law_due (fun vs H Q E h => ?_) (fun cdv A outer s H vs Q E hr h => ?_)
  · obtain ⟨a, lines, rfl, _⟩ := h
    rfl
  · obtain ⟨a, lines, rfl, ha, hne, hn9, hLn, q⟩ := h
    refine ⟨_, (pss_cons (ps_setLc (i := 1) (own := [("_law_line", 4)]) (g := (gName 4)) (tt := tYes) rfl sc__law_due.nd rfl rfl (sw_true rfl rfl rfl (by decide +kernel)) (pi_seq (pv 0)) (blkOk_by (N := ["_law_lines", "_law_rows", "_law_k", "_law_wrong_here", "_law_line", "_law_one"]) (sc := defScope s__law_due) (by decide +kernel)) (fun _ _ _ _ _ => (pg_name (i := 4) sc__law_due.nd rfl (Or.inl rfl))) (fun _ _ _ _ _ => pts_nil) (fun _ _ _ _ _ => (pe_lc (own := [("_law_one", 5)]) (g := (gName 5)) rfl sc__law_due.nd (pi_seqN (K := K) (by rfl) (pe_split (pv 4) pe_str)) (blkOk_by (by rfl)) (fun _ _ _ _ _ => (pg_name (i := 5) sc__law_due.nd rfl (Or.inl rfl))) (fun _ _ _ _ _ => pts_one (pt_cmpR (r := rNeU K) (op_neU hr.units) (pv 5) pe_str (nomark _))) (fun _ _ _ _ _ => (pv 5)))))
 (pss_cons (ps_for PassesOwn.never rfl (pi_range1 rfl T.z_range (pa_cons (pe_callB (r := rLenU K) call_lenU (by rfl) T.z_len (by decide +kernel) (pa_cons (pv 1) pa_nil)) pa_nil)) (pg_name (i := 2) sc__law_due.nd rfl (Or.inl rfl))
 (pss_cons (ps_set (i := 3) sc__law_due.nd rfl (Or.inl rfl) (pe_call (ok__law_wrong T) (hr.mono (by decide)) (by rfl) T.g__law_wrong T.F__law_wrong.kp T.b__law_wrong .nil pass0 (pa_cons (pv 2) (pa_cons (pe_ix (r := rIx K) ix_seq (pv 1) (pv 2) (fun _ _ => rfl)) (pa_cons (pe_callB (call_minU rfl) (by rfl) T.z_min (by decide +kernel) (pa_cons (pe_callB (r := rLenU K) call_lenU (by rfl) T.z_len (by decide +kernel) (pa_cons (pv 1) pa_nil)) (pa_cons pe_int pa_nil))) (pa_cons (pe_ifExp (pt_cmpR op_gt (pv 2) pe_int (nomark _)) (pe_op op_sub (pe_callB (r := rLenU K) call_lenU (by rfl) T.z_len (by decide +kernel) (pa_cons (pe_ix (r := rIx K) ix_seq (pv 1) pe_int (fun _ _ => rfl)) pa_nil)) pe_int) pe_int) pa_nil))))))
 (pss_one (ps_if (pt_cmpR op_notN (pv 3) pe_non (nomark _)) (pss_one (ps_ret (pe_tup (pa_cons (pe_op (r := rAddU K) op_addU (pv 2) pe_int) (pa_cons (pv 3) pa_nil))))) pss_nil))))
 (pss_one (ps_ret pe_non)))), ?_⟩
    refine st0 (σ' := [some _, none, none, none, none, none]) rfl ?_
    have hpos : 0 < lines.length := List.length_pos_iff.mpr hne
    walk_at "go"
    refine e_lcL ?_
    walk_at "go"
    refine ⟨a, rfl, ⟨_, sqL ha⟩, ?_⟩
    refine comp_d (walk_list (K := K) (xs := lines.map V.str)) (fun D i v H => ∃ b z, v = .ref b ∧ b ≠ D ∧ lines[i]? = some z ∧ H b = some (.lst ((wordsOf z).map V.str)))
      (σw := [some (.ref a), none, none, none, none, none]) (fun D i v H H' s h => ?_) rfl (by rw [List.length_map]; omega) (fun H' s => sqL (s _ _ ha)) (fun D i x H3 H4 R hi hD s3 hy k => ?_) (fun i H x H' h => by obtain ⟨rfl, _⟩ := h; exact Same.refl _) fun D H3 ys hD s3 hd hyl hyp => ?_
    · obtain ⟨b, z, e1, e2, e3, e4⟩ := h
      exact ⟨b, z, e1, e2, e3, s _ _ e4 fun m => e2 (List.mem_singleton.mp m)⟩
    · obtain ⟨rfl, hxi⟩ := hy
      rw [List.length_map] at hi
      have hz' : lines[i]? = some lines[i] := List.getElem?_eq_getElem hi
      rw [List.getElem?_map, hz'] at hxi
      cases hxi
      have hln := (hLn _ (List.mem_of_getElem? hz')).ln
      walk_at "go"
      refine ⟨rfl, ?_⟩
      walk_at "go"
      refine e_lcL ?_
      refine e_m1 ?_
      walk_at "go"
      refine ⟨⟨_, rfl⟩, ?_⟩
      walk_at "go"
      refine split_r (by omega) fun p H5 hp s5 h5 => ?_
      refine ⟨p, rfl, ⟨_, sqL h5⟩, ?_⟩
      have hlen := splS_len lines[i]
      refine comp_lf (xs := (splS lines[i]).map V.str) (fun x => !decide (x = V.str ("" : Str))) (σw := [some (.ref a), none, none, none, some (.str lines[i]), none]) rfl h5 (by rw [List.length_map]; omega) (fun i2 x H6 R2 hxi2 s6 k2 => ?_) fun D2 H6 hD2 s6 hd6 => ?_
      · walk_at "go"
        refine ⟨rfl, ?_⟩
        walk_at "go"
        obtain ⟨w, hw, rfl⟩ := List.mem_map.mp (List.mem_of_getElem? hxi2)
        refine .inl ⟨rfl, ?_⟩
        walk_at "go"
        refine k2 _ _ _ rfl (Same.refl _) fun hk Q2 hq => ?_
        walk_at "go"
        exact hq _ (Same.refl _)
      · rw [words_v] at hd6
        refine k _ _ (s5.trans s6) ⟨D2, _, rfl, fun e => ?_, hz', hd6⟩
        obtain ⟨acc, hacc⟩ := hD
        rw [e, s5 _ _ hacc] at hD2
        cases hD2
    · rw [List.length_map] at hyl
      walk_at "go"
      refine f_forR ?_
      walk_at "go"
      refine len_l (sqL hd) ?_
      walk_at "go"
      refine ⟨_, rfl, by omega, by omega, ?_⟩
      rw [Int.toNat_natCast, hyl]
      have hget : ∀ (j : Nat) (z : Str), lines[j]? = some z → (lines.map wordsOf).getD j [] = wordsOf z := fun j z hz => getD_of (by rw [List.getElem?_map, hz]; rfl)
      refine for_it walk_rng (fun i σ H5 => ∃ y1 y2, σ = [some (.ref a), some (.ref D), y1, y2, none, none] ∧ Same H3 H5 ∧ ∀ j, j < i → fk (lines.map wordsOf) j = none)
        ⟨none, none, rfl, Same.refl _, fun j hj => absurd hj (Nat.not_lt_zero j)⟩ (fun _ _ _ _ _ => trivial) (fun i x σ H5 H6 hi h hy => ?_) (fun σ H5 h => ?_)
      · obtain ⟨y1, y2, rfl, s5, hold⟩ := h
        obtain ⟨rfl, rfl⟩ := hy
        rw [Int.zero_add]
        have hx : ys[i]? = some (ys[i]'(by omega)) := List.getElem?_eq_getElem (by omega)
        obtain ⟨b, z, eb, _, hzi, hb⟩ := hyp i _ hx
        rw [eb] at hx
        have hx0 : ys[0]? = some (ys[0]'(by omega)) := List.getElem?_eq_getElem (by omega)
        obtain ⟨b0, z0, eb0, _, hz0, hb0⟩ := hyp 0 _ hx0
        rw [eb0] at hx0
        have hw1 := words_len z
        have hl1 := (hLn z (List.mem_of_getElem? hzi)).ln
        have hw2 := words_len z0
        have hl2 := (hLn z0 (List.mem_of_getElem? hz0)).ln
        have hmin : (if (8 : Int) < ((ys.length : Nat) : Int) then (8 : Int) else ((ys.length : Nat) : Int)) = ((min lines.length 8 : Nat) : Int) := by split <;> omega
        have efk : fk (lines.map wordsOf) i = if 8 ≤ i then some 1 else wr (min lines.length 8) (max 1 (stepsOf (lines.map wordsOf) i)) (if 0 < stepsOf (lines.map wordsOf) i then stepsOf (lines.map wordsOf) i else 3) (wordsOf z) := by
          unfold fk
          rw [List.length_map, hget i z hzi]
        have fin : ∀ (sv : Int) (H7 : Hp) (QQ : VK), sv = ((stepsOf (lines.map wordsOf) i : Nat) : Int) → Same H6 H7 → (∀ H8, Same H7 H8 → QQ (numV (fk (lines.map wordsOf) i)) H8) → spWrong K [.int (i : Nat), .ref b, .int ((min lines.length 8 : Nat) : Int), .int sv] H7 QQ (fun _ _ _ => False) := by
          intro sv H7 QQ e s7 hq
          subst e
          refine ⟨i, min lines.length 8, _, wordsOf z, b, rfl, s7 _ _ (s5 _ _ hb), by omega, by omega, ?_, words_sm (hLn z (List.mem_of_getElem? hzi)), fun H8 s8 => ?_⟩
          · unfold stepsOf
            split
            · omega
            · rw [hget 0 z0 hz0]
              omega
          · rw [← efk]
            exact hq H8 s8
        walk_at "go"
        refine ix_l (sqL (s5 _ _ hd)) (atI_nat hx) ?_
        walk_at "go"
        refine len_l (sqL (s5 _ _ hd)) ?_
        walk_at "go"
        rw [hmin]
        refine i_d (fun h0 => ?_) (fun h0 => ?_)
        · have hk0 : 0 < i := by omega
          obtain ⟨l1, l3⟩ := first_ok (hold 0 hk0)
          rw [hget 0 z0 hz0] at l1
          walk_at "go"
          refine ix_l (sqL (s5 _ _ hd)) (atI_nat (j := 0) hx0) ?_
          walk_at "go"
          refine len_l (sqL (s5 _ _ hb0)) ?_
          walk_at "go"
          rw [List.length_map]
          refine fin _ _ _ ?_ (Same.refl _) fun H8 s8 => ?_
          · unfold stepsOf
            rw [if_neg (by omega), hget 0 z0 hz0]
            omega
          · walk_at "go"
            refine ⟨rfl, ?_⟩
            walk_at "go"
            rcases hfk : fk (lines.map wordsOf) i with _ | w
            · refine i_nd (fun hn => absurd rfl hn) (fun _ => ?_)
              walk_at "go"
              refine ⟨_, _, rfl, s5.trans s8, fun j hj => ?_⟩
              by_cases hji : j < i
              · exact hold j hji
              · rw [show j = i by omega]
                exact hfk
            · refine i_nd (fun _ => ?_) (fun e => nomatch e)
              walk_at "go"
              refine al_t (sz1000 (by show 2 ≤ 1000; decide)) fun p H9 n9 s9 h9 _ => ?_
              refine q _ H9 (s3.trans (s5.trans (s8.trans s9))) ?_
              rw [flt_some (by rw [List.length_map]; omega) hfk hold]
              exact ⟨p, rfl, h9⟩
        · walk_at "go"
          refine fin _ _ _ ?_ (Same.refl _) fun H8 s8 => ?_
          · unfold stepsOf
            rw [if_pos (by omega)]
            rfl
          · walk_at "go"
            refine ⟨rfl, ?_⟩
            walk_at "go"
            rcases hfk : fk (lines.map wordsOf) i with _ | w
            · refine i_nd (fun hn => absurd rfl hn) (fun _ => ?_)
              walk_at "go"
              refine ⟨_, _, rfl, s5.trans s8, fun j hj => ?_⟩
              by_cases hji : j < i
              · exact hold j hji
              · rw [show j = i by omega]
                exact hfk
            · refine i_nd (fun _ => ?_) (fun e => nomatch e)
              walk_at "go"
              refine al_t (sz1000 (by show 2 ≤ 1000; decide)) fun p H9 n9 s9 h9 _ => ?_
              refine q _ H9 (s3.trans (s5.trans (s8.trans s9))) ?_
              rw [flt_some (by rw [List.length_map]; omega) hfk hold]
              exact ⟨p, rfl, h9⟩
      · obtain ⟨y1, y2, rfl, s5, hold⟩ := h
        walk_at "go"
        refine q _ H5 (s3.trans s5) ?_
        rw [flt_none fun j hj => hold j (by rw [List.length_map] at hj; exact hj)]
        rfl
def spAnswer (K : PySem.W.Frag) : Sp := fun vs H Q _ => ∃ lines : List Str, vs = [.str (Txt.join ("\n" : Str) lines)] ∧ lines ≠ [] ∧ lines.length ≤ 900 ∧ (∀ z ∈ lines, Ln 900 z) ∧ ∀ x H', Same H H' → AnsAt H' x (flt (lines.map wordsOf)) → Q x H'
theorem e_v1s {a b : Option V} {v : V} {H : Hp} {Q : VK} (q : Q v H) : tVar 1 ([a, some v, b].set 2 none) H Q := ⟨v, rfl, q⟩
theorem e_calls {sp : Sp} {E : L2.St → XK} {t : TA} {σ : L2.St} {H : Hp} {Q : VK} (q : t σ H fun vs H1 => sp vs H1 Q (E σ)) : tCallS sp E t σ H Q := q
theorem ok__law_answer (T : TxtP P K mg) : FnOk P w K mg base CX0 8 T.a__law_answer T.fd__law_answer ["_law_text"] (spAnswer K) := by
  refine T.F__law_answer.ok sc__law_answer (fun vs H Q E h => ?_) (fun cdv A outer s H vs Q E hr h => ?_)
  · obtain ⟨lines, rfl, _⟩ := h
    rfl
  · obtain ⟨lines, rfl, hne, hn9, hLn, q⟩ := h
    refine ⟨_, (pss_cons (ps_set (i := 1) sc__law_answer.nd rfl (Or.inl rfl) pe_non)
 (pss_cons (ps_try_manyA rfl rfl sc__law_answer.nd takes0 (fun W pn xe tk po => (pss_one (ps_expr (pe_callS (ok_read T) (hr.mono (by decide)) (by rfl) T.g_read T.F_read.kp T.b_read (fun σ => passAt tk σ) (pa_cons (pv 0) pa_nil)))))
 (HdsA.cons (i := 2) ⟨by rfl, by decide, .inl T.g_InvalidText⟩ rfl rfl (fun a oe cls d pn hz hf => (pss_one (ps_set (i := 1) sc__law_answer.nd rfl (Or.inl rfl) (pe_ifExp (pt_val (pe_callB (call_isX hz hf) (by rfl) T.z_isinstance (by decide +kernel) (pa_cons (pv 2) (pa_cons (pe_glob (v := .ref T.C_MachineError) (by rfl) T.g_MachineError rfl) pa_nil)))) (pe_tup (pa_cons (pe_xf T.f_InvalidText T.n_InvalidText_line hz hf (pv 2)) (pa_cons (pe_xf T.f_InvalidText T.n_InvalidText_word hz hf (pv 2)) pa_nil))) (pe_tup pa_nil)))))
 HdsA.nil))
 (pss_one (ps_ret (pv 1))))), ?_⟩
    refine st0 (σ' := [some _, none, none]) rfl ?_
    generalize ht : (Txt.join ("\n" : Str) lines) = t
    walk_at "go"
    refine e_calls ?_
    walk_at "go"
    refine ⟨lines, by rw [ht], hne, hn9, hLn, fun hf x H1 s1 => ?_, fun l w hf d H1 hd s1 hx => ?_⟩
    · walk_at "go"
      refine q _ _ s1 ?_
      rw [hf]
      rfl
    · refine ⟨true, exm_c T.r_InvalidText T.ic_InvalidText T.t_InvalidText T.sb_InvalidText_InvalidText, fun _ a ha => ?_, fun z => (nomatch z)⟩
      refine st0 (σ' := [some (.str t), some .non, some (.ref a)]) rfl ?_
      walk_at "go"
      refine ⟨T.C_InvalidText, .ref T.C_MachineError, _, true, rfl, T.e_InvalidText, fun dd e => ⟨itf l w, by rw [← Option.some.inj e]; exact hx⟩, rfl, fun u h => h, kit_c T.ic_MachineError T.t_MachineError T.sb_InvalidText_MachineError (fun _ => rfl), ?_⟩
      walk_at "go"
      refine ⟨_, rfl, rfl, rfl, d, _, .int (l : Nat), rfl, hx, rfl, ?_⟩
      walk_at "go"
      refine ⟨_, rfl, rfl, rfl, d, _, .int (w : Nat), rfl, hx, rfl, ?_⟩
      walk_at "go"
      refine al_t (sz1000 (by show 2 ≤ 1000; decide)) fun p H2 n2 e2 h2 _ => ?_
      walk_at "go"
      refine e_v1s ?_
      refine q _ _ (s1.trans e2) ?_
      rw [hf]
      exact ⟨p, rfl, h2⟩
/-! ### draws: a number state, the cells, an index -/
structure Dr (H : Hp) (h pc : Addr) : Prop where
  ex : ∃ (st ix : Int) (cs : List Int), H h = some (.lst [.int st, .ref pc, .int ix]) ∧ H pc = some (.lst (cs.map V.int)) ∧ 0 ≤ st ∧ st < 2147483647 ∧ 0 ≤ ix ∧ cs.length ≤ 63
theorem Dr.ne {H : Hp} {h pc : Addr} (d : Dr H h pc) : h ≠ pc := by
  obtain ⟨st, ix, cs, h1, h2, _⟩ := d.ex
  intro e
  rw [e] at h1
  rw [h1] at h2
  have e2 : [V.int st, .ref pc, .int ix] = cs.map V.int := HO.lst.inj (Option.some.inj h2)
  have e3 : V.ref pc ∈ cs.map V.int := by
    rw [← e2]
    exact List.mem_cons_of_mem _ List.mem_cons_self
  obtain ⟨z, _, e4⟩ := List.mem_map.mp e3
  cases e4
theorem Dr.same {H H' : Hp} {h pc : Addr} (d : Dr H h pc) (s : Same H H') : Dr H' h pc := by
  obtain ⟨st, ix, cs, h1, h2, r⟩ := d.ex
  exact ⟨st, ix, cs, s _ _ h1, s _ _ h2, r⟩
/-- a step of draws: only their own two lists have changed -/
structure DrS (h pc : Addr) (H H' : Hp) : Prop where
  bt : But [h, pc] H H'
  dr : Dr H' h pc
theorem two_mem {h pc b : Addr} (h1 : b ≠ h) (h2 : b ≠ pc) : b ∉ [h, pc] := by
  intro m
  rcases List.mem_cons.mp m with e | e
  · exact h1 e
  · exact h2 (List.mem_singleton.mp e)
theorem Dr.not {H : Hp} {h pc b : Addr} (d : Dr H h pc) (hb : H b = none) : b ∉ [h, pc] := by
  obtain ⟨st, ix, cs, h1, h2, r⟩ := d.ex
  refine two_mem (fun e => ?_) (fun e => ?_)
  · rw [e, h1] at hb
    cases hb
  · rw [e, h2] at hb
    cases hb
theorem DrS.refl {H : Hp} {h pc : Addr} (d : Dr H h pc) : DrS h pc H H := ⟨fun _ _ e _ => e, d⟩
theorem DrS.trans {H H1 H2 : Hp} {h pc : Addr} (a : DrS h pc H H1) (b : DrS h pc H1 H2) : DrS h pc H H2 := ⟨a.bt.trans b.bt, b.dr⟩
theorem DrS.of {H H1 : Hp} {h pc : Addr} (d : Dr H h pc) (s : Same H H1) : DrS h pc H H1 := ⟨s.but, d.same s⟩
theorem Dr.nl {H H' : Hp} {h pc : Addr} (d : Dr H h pc) (b : But [h, pc] H H') : NL H H' := by
  obtain ⟨st, ix, cs, h1, h2, r⟩ := d.ex
  refine b.nl fun c m => ?_
  rcases List.mem_cons.mp m with e | e
  · rw [e]
    exact ⟨_, h1⟩
  · rw [List.mem_singleton.mp e]
    exact ⟨_, h2⟩
theorem DrS.get {H H' : Hp} {h pc b : Addr} {o : HO} (s : DrS h pc H H') (hb : H b = some o) (n : b ∉ [h, pc]) : H' b = some o := s.bt b o hb n
def spMix (K : PySem.W.Frag) : Sp := fun vs H Q _ => ∃ (a : Addr) (ns : List Int) (seed : Int), vs = [.ref a, .int seed] ∧ SqL K H a (ns.map V.int) ∧ ns.length ≤ 63 ∧ 0 ≤ seed ∧ seed < 2147483647 ∧
  ∀ h pc H', Same H H' → H h = none → H pc = none → Dr H' h pc → Q (.ref h) H'
theorem ok__law_mix (T : TxtP P K mg) : FnOk P w K mg base CX0 1 T.a__law_mix T.fd__law_mix ["_law_script", "_law_seed"] (spMix K) := by
  refine T.F__law_mix.ok sc__law_mix (fun vs H Q E h => ?_) (fun cdv A outer s H vs Q E hr h => ?_)
  · obtain ⟨a, ns, seed, rfl, _⟩ := h
    rfl
  · obtain ⟨a, ns, seed, rfl, hS, hl, s0, s1, q⟩ := h
    refine ⟨_, (pss_cons (ps_set (i := 2) sc__law_mix.nd rfl (Or.inl rfl) (pv 1))
 (pss_cons (ps_for PassesOwn.never rfl (pi_seq (pv 0)) (pg_name (i := 3) sc__law_mix.nd rfl (Or.inl rfl))
 (pss_one (ps_set (i := 2) sc__law_mix.nd rfl (Or.inl rfl) (pe_op op_modN (pe_callTy call_intU (by rfl) T.z_int (by decide +kernel) (pa_cons (pe_op (r := rAddU K) op_addU (pe_op (r := rAddU K) op_addU (pe_op op_mulU (pv 2) pe_int) (pe_op op_modN (pe_callTy call_intU (by rfl) T.z_int (by decide +kernel) (pa_cons (pv 3) pa_nil)) pe_int)) pe_int) pa_nil)) pe_int))))
 (pss_one (ps_ret (pe_lst (pa_cons (pv 2) (pa_cons (pe_callTy (r := rListU K) call_listU (by rfl) T.z_list (by decide +kernel) (pa_cons (pv 0) pa_nil)) (pa_cons pe_int pa_nil)))))))), ?_⟩
    refine st0 (σ' := [some _, some _, none, none]) rfl ?_
    walk_at "go"
    refine f_forL ?_
    walk_at "go"
    refine ⟨a, rfl, ⟨_, hS⟩, for_list (K := K) (a := a) (xs := ns.map V.int) (fun i σ H2 => ∃ z y, σ = [some (.ref a), some (.int seed), some (.int z), y] ∧ H2 = H ∧ 0 ≤ z ∧ z < 2147483647) ⟨seed, none, rfl, rfl, s0, s1⟩ (fun i σ H2 _ h => ?_) (fun i x σ H2 hi h => ?_) (fun σ H2 h => ?_)⟩
    · obtain ⟨_, _, _, e, _⟩ := h
      rw [e]
      exact hS
    · obtain ⟨z, y, rfl, rfl, z0, z1⟩ := h
      rw [List.getElem?_map] at hi
      obtain ⟨c, hc, rfl⟩ := Option.map_eq_some_iff.mp hi
      walk_at "go"
      refine mul_i (cmul_l z0 (by omega)) ?_
      walk_at "go"
      refine mod_c (by decide) ?_
      walk_at "go"
      refine mod_c (by decide) ?_
      walk_at "go"
      exact ⟨_, _, rfl, rfl, Int.fmod_nonneg_of_pos _ (by decide), Int.fmod_lt_of_pos _ (by decide)⟩
    · obtain ⟨z, y, rfl, rfl, z0, z1⟩ := h
      walk_at "go"
      refine list_s (.inl hS) fun pc H1 n1 e1 h1 _ => ?_
      walk_at "go"
      refine al_l (sz1000 (by show 3 ≤ 1000; decide)) fun h H3 n3 e3 h3 _ => ?_
      walk_at "go"
      exact q h pc H3 (e1.trans e3) (e1.free n3) n1 ⟨z, 0, ns, h3, e3 _ _ h1, z0, z1, by decide, hl⟩
def spNext : Sp := fun vs H Q _ => ∃ (h pc : Addr) (cap : Int), vs = [.ref h, .int cap] ∧ Dr H h pc ∧ 0 < cap ∧ cap < 1073741824 ∧ ∀ r H', 0 ≤ r → r < cap → DrS h pc H H' → Q (.int r) H'
theorem ok__law_next (T : TxtP P K mg) : FnOk P w K mg base CX0 1 T.a__law_next T.fd__law_next ["_law_h", "_law_cap"] spNext := by
  refine T.F__law_next.ok sc__law_next (fun vs H Q E h => ?_) (fun cdv A outer s H vs Q E hr h => ?_)
  · obtain ⟨h, pc, cap, rfl, _⟩ := h
    rfl
  · obtain ⟨h, pc, cap, rfl, D, c0, c1, q⟩ := h
    obtain ⟨st, ix, cs, hh, hc, s0, s1, i0, hl⟩ := id D
    have hne := D.ne
    refine ⟨_, (pss_cons (ps_set (i := 2) sc__law_next.nd rfl (Or.inl rfl) (pe_ix (r := rIx K) ix_seq (pe_op (r := rAddU K) op_addU (pe_ix (r := rIx K) ix_seq (pv 0) pe_int (fun _ _ => rfl)) (pe_lst (pa_cons pe_int pa_nil))) (pe_op op_modN (pe_callTy call_intU (by rfl) T.z_int (by decide +kernel) (pa_cons (pe_ix (r := rIx K) ix_seq (pv 0) pe_int (fun _ _ => rfl)) pa_nil)) (pe_callB (call_maxU rfl) (by rfl) T.z_max (by decide +kernel) (pa_cons pe_int (pa_cons (pe_callB (r := rLenU K) call_lenU (by rfl) T.z_len (by decide +kernel) (pa_cons (pe_ix (r := rIx K) ix_seq (pv 0) pe_int (fun _ _ => rfl)) pa_nil)) pa_nil)))) (fun _ _ => rfl)))
 (pss_cons (ps_if (pt_cmpR op_ge (pv 2) (pe_op op_pow pe_int pe_int) (nomark _)) (pss_cons (ps_asg (pe_op op_fdivN (pv 2) (pv 1)) (pg_sub (pe_ix (r := rIx K) ix_seq (pv 0) pe_int (fun _ _ => rfl)) (pe_op op_modN (pe_callTy call_intU (by rfl) T.z_int (by decide +kernel) (pa_cons (pe_ix (r := rIx K) ix_seq (pv 0) pe_int (fun _ _ => rfl)) pa_nil)) (pe_callB (r := rLenU K) call_lenU (by rfl) T.z_len (by decide +kernel) (pa_cons (pe_ix (r := rIx K) ix_seq (pv 0) pe_int (fun _ _ => rfl)) pa_nil))) set_list))
 (pss_one (ps_ret (pe_op op_modN (pe_callTy call_intU (by rfl) T.z_int (by decide +kernel) (pa_cons (pv 2) pa_nil)) (pv 1))))) pss_nil)
 (pss_cons (ps_asg (pe_op op_modN (pe_callTy call_intU (by rfl) T.z_int (by decide +kernel) (pa_cons (pe_op (r := rAddU K) op_addU (pe_op (r := rAddU K) op_addU (pe_op op_mulU (pe_ix (r := rIx K) ix_seq (pv 0) pe_int (fun _ _ => rfl)) pe_int) (pe_op op_mulU (pv 2) pe_int)) pe_int) pa_nil)) pe_int) (pg_sub (pv 0) pe_int set_list))
 (pss_cons (ps_asg (pe_op (r := rAddU K) op_addU (pe_ix (r := rIx K) ix_seq (pv 0) pe_int (fun _ _ => rfl)) pe_int) (pg_sub (pv 0) pe_int set_list))
 (pss_one (ps_ret (pe_op op_modN (pe_callTy call_intU (by rfl) T.z_int (by decide +kernel) (pa_cons (pe_op op_fdivN (pe_ix (r := rIx K) ix_seq (pv 0) pe_int (fun _ _ => rfl)) pe_int) pa_nil)) (pv 1)))))))), ?_⟩
    refine st0 (σ' := [some _, some _, none]) rfl ?_
    walk_at "go"
    refine ix_l (sqL hh) (atI_nat (j := 1) rfl) ?_
    walk_at "go"
    refine al_l (sz1000 (by show 1 ≤ 1000; decide)) fun p1 H1 n1 e1 h1 _ => ?_
    walk_at "go"
    refine add_l (e1 _ _ hc) h1 (by
      rw [List.length_map]
      show cs.length + 1 ≤ 1000
      omega) fun p2 H2 n2 e2 h2 => ?_
    have e12 := e1.trans e2
    walk_at "go"
    refine ix_l (sqL (e12 _ _ hh)) (atI_nat (j := 2) rfl) ?_
    walk_at "go"
    refine ix_l (sqL (e12 _ _ hh)) (atI_nat (j := 1) rfl) ?_
    walk_at "go"
    refine len_l (sqL (e12 _ _ hc)) ?_
    walk_at "go"
    rw [List.length_map]
    generalize hm : (if (cs.length : Int) > 1 then (cs.length : Int) else 1) = m
    have hm1 : 0 < m := by
      rw [← hm]
      split <;> omega
    have hm2 : m = 1 ∨ m = (cs.length : Int) := by
      rw [← hm]
      split
      · exact .inr rfl
      · exact .inl rfl
    refine mod_c (by omega) ?_
    have k0 := Int.fmod_nonneg_of_pos ix hm1
    have k1 := Int.fmod_lt_of_pos ix hm1
    obtain ⟨cell, hcell, hbig⟩ : ∃ cell, (cs.map V.int ++ [V.int 0])[(ix.fmod m).toNat]? = some (.int cell) ∧ (0 < cell → (ix.fmod m).toNat < cs.length) := by
      by_cases hk : (ix.fmod m).toNat < cs.length
      · refine ⟨cs[(ix.fmod m).toNat], ?_, fun _ => hk⟩
        rw [List.getElem?_append_left (by rw [List.length_map]; exact hk), List.getElem?_map, List.getElem?_eq_getElem hk]
        rfl
      · refine ⟨0, ?_, fun z => absurd z (by decide)⟩
        have ek : (ix.fmod m).toNat = (cs.map V.int).length := by
          rw [List.length_map]
          rcases hm2 with e | e
          · rw [e] at k1 hk ⊢
            omega
          · omega
        rw [ek, List.getElem?_concat_length]
    refine ix_l (sqL h2) (at_int k0 hcell) ?_
    walk_at "go"
    refine r_ic ⟨by decide, by decide, by decide⟩ ?_
    walk_at "go"
    refine i_d (fun hb => ?_) (fun hb => ?_)
    · -- the digits of a large cell
      have hpos : 0 < cell := by
        have : (10 : Int) ^ (18 : Int).toNat ≤ cell := hb
        have e : (10 : Int) ^ (18 : Int).toNat = 1000000000000000000 := by decide
        rw [e] at this
        omega
      have hlt := hbig hpos
      have hcl : 0 < (cs.length : Int) := by omega
      walk_at "go"
      refine fdv_c ⟨by omega, by omega⟩ ?_
      walk_at "go"
      refine ix_l (sqL (e12 _ _ hh)) (atI_nat (j := 1) rfl) ?_
      walk_at "go"
      refine ix_l (sqL (e12 _ _ hh)) (atI_nat (j := 2) rfl) ?_
      walk_at "go"
      refine ix_l (sqL (e12 _ _ hh)) (atI_nat (j := 1) rfl) ?_
      walk_at "go"
      refine len_l (sqL (e12 _ _ hc)) ?_
      walk_at "go"
      rw [List.length_map]
      refine mod_c (by omega) ?_
      refine set_l (e12 _ _ hc) (Int.fmod_nonneg_of_pos _ hcl) (by
        rw [List.length_map]
        exact Int.fmod_lt_of_pos _ hcl) ?_
      walk_at "go"
      refine mod_c (by omega) ?_
      walk_at "go"
      refine q _ _ (Int.fmod_nonneg_of_pos _ c0) (Int.fmod_lt_of_pos _ c0) ⟨fun b o hb2 nb => ?_, ⟨st, ix, cs.set (ix.fmod (cs.length : Int)).toNat (cell.fdiv cap), ?_, ?_, s0, s1, i0, by rw [List.length_set]; exact hl⟩⟩
      · rw [upd_ne (fun e => nb (by rw [e]; exact List.mem_cons_of_mem _ List.mem_cons_self))]
        exact e12 _ _ hb2
      · rw [upd_ne hne]
        exact e12 _ _ hh
      · rw [upd_same, List.map_set]
    · walk_at "go"
      refine ix_l (sqL (e12 _ _ hh)) (atI_nat (j := 0) rfl) ?_
      walk_at "go"
      refine mul_i (cmul_l s0 (by omega)) ?_
      walk_at "go"
      refine mul_i (cmul_r (by decide) (by decide)) ?_
      walk_at "go"
      refine mod_c (by decide) ?_
      walk_at "go"
      generalize hst : (st * 48271 + cell * 69621 + 11).fmod 2147483647 = st'
      have t0 : 0 ≤ st' := by
        rw [← hst]
        exact Int.fmod_nonneg_of_pos _ (by decide)
      have t1 : st' < 2147483647 := by
        rw [← hst]
        exact Int.fmod_lt_of_pos _ (by decide)
      refine set_l (e12 _ _ hh) (by decide) (by show (0 : Int) < 3; decide) ?_
      walk_at "go"
      have hh3 : (upd H2 h (.lst ([V.int st, .ref pc, .int ix].set (0 : Int).toNat (.int st')))) h = some (.lst [.int st', .ref pc, .int ix]) := upd_same
      refine ix_l (sqL hh3) (atI_nat (j := 2) rfl) ?_
      walk_at "go"
      refine set_l hh3 (by decide) (by show (2 : Int) < 3; decide) ?_
      walk_at "go"
      refine ix_l (sqL upd_same) (atI_nat (j := 0) rfl) ?_
      walk_at "go"
      refine fdv_c ⟨by decide, by decide⟩ ?_
      walk_at "go"
      refine mod_c (by omega) ?_
      walk_at "go"
      refine q _ _ (Int.fmod_nonneg_of_pos _ c0) (Int.fmod_lt_of_pos _ c0) ⟨fun b o hb2 nb => ?_, ⟨st', ix + 1, cs, upd_same, ?_, t0, t1, by omega, hl⟩⟩
      · have nh : b ≠ h := fun e => nb (by rw [e]; exact List.mem_cons_self)
        rw [upd_ne nh, upd_ne nh]
        exact e12 _ _ hb2
      · rw [upd_ne (Ne.symm hne), upd_ne (Ne.symm hne)]
        exact e12 _ _ hc
/-- one of some things, drawn -/
def spPick (K : PySem.W.Frag) : Sp := fun vs H Q _ => ∃ (h pc t : Addr) (xs : List V), vs = [.ref h, .ref t] ∧ Dr H h pc ∧ 0 < xs.length ∧ xs.length ≤ 1000 ∧ (SqT K H t xs ∨ (H t = some (.lst xs) ∧ t ∉ [h, pc])) ∧
  ∀ (i : Nat) x H', xs[i]? = some x → DrS h pc H H' → Q x H'
theorem ok__law_pick (T : TxtP P K mg) : FnOk P w K mg base CX0 2 T.a__law_pick T.fd__law_pick ["_law_h", "_law_things"] (spPick K) := by
  refine T.F__law_pick.ok sc__law_pick (fun vs H Q E h => ?_) (fun cdv A outer s H vs Q E hr h => ?_)
  · obtain ⟨h, pc, t, xs, rfl, _⟩ := h
    rfl
  · obtain ⟨h, pc, t, xs, rfl, D, x0, x1, ht, q⟩ := h
    refine ⟨_, (pss_one (ps_ret (pe_ix (r := rIx K) ix_seq (pv 1) (pe_call (ok__law_next T) (hr.mono (by decide)) (by rfl) T.g__law_next T.F__law_next.kp T.b__law_next .nil pass0 (pa_cons (pv 0) (pa_cons (pe_callB (r := rLenU K) call_lenU (by rfl) T.z_len (by decide +kernel) (pa_cons (pv 1) pa_nil)) pa_nil))) (fun _ _ => rfl)))), ?_⟩
    refine st0 (σ' := [some _, some _]) rfl ?_
    walk_at "go"
    have fin : ∀ (r : Int) (H' : Hp), 0 ≤ r → r < (xs.length : Int) → DrS h pc H H' → rIx K (.ref t) (.int r) H' Q := by
      intro r H' r0 r1 s
      have hx : xs[r.toNat]? = some (xs[r.toNat]'(by omega)) := List.getElem?_eq_getElem (by omega)
      rcases ht with ht | ⟨ht, n⟩
      · exact ix_t ((D.nl s.bt).t ht) (at_int r0 hx) (q _ _ _ hx s)
      · exact ix_l (sqL (s.get ht n)) (at_int r0 hx) (q _ _ _ hx s)
    rcases ht with ht | ⟨ht, n⟩
    · refine len_t ht ?_
      walk_at "go"
      exact ⟨h, pc, _, rfl, D, by omega, by omega, fun r H' r0 r1 s => fin r H' r0 r1 s⟩
    · refine len_l (sqL ht) ?_
      walk_at "go"
      exact ⟨h, pc, _, rfl, D, by omega, by omega, fun r H' r0 r1 s => fin r H' r0 r1 s⟩
/-! comprehensions over a range whose elements draw -/
theorem comp_dr {h pc : Addr} {n : Nat} {g : TG} {te : TE} {vs : List Nat} {σ σw : St} {H : Hp} {QD : Addr → Hp → Prop} (Pe : V → Prop) (hw : wipe σ vs = σw) (hn : n ≤ 1000) (D0 : Dr H h pc)
    (he : ∀ (i : Nat) (H2 : Hp) (R : VK), i < n → DrS h pc H H2 → (∀ y H4, Pe y → DrS h pc H2 H4 → R y H4) → g (.int (0 + (i : Nat))) σw H2 fun σ2 H4 => wipe σ2 vs = σw ∧ te σ2 H4 R)
    (q : ∀ D H' ys, H D = none → DrS h pc H H' → H' D = some (.lst ys) → ys.length = n → (∀ y ∈ ys, Pe y) → QD D H') :
    ∀ D, H D = none → ∃ W : Nat → Nat → Hp → Prop, (∃ m, W 0 m (upd H D (.lst []))) ∧ ∀ i m H, W i m H →
      ((Itr 0 n).stop i H ∧ QD D H) ∨ ((Itr 0 n).go i H ∧ ∃ Nx : Hp → Prop, (∀ H', Nx H' → ∃ m', m' < m ∧ W (i + 1) m' H') ∧ ∀ x H', (Itr 0 n).yld i H x H' → g x (wipe σ vs) H' fun σ2 H2 => wipe σ2 vs = wipe σ vs ∧ tYes σ2 H2 fun b H3 =>
        if b = true then te σ2 H3 fun y H4 => ∃ acc, H4 D = some (.lst acc) ∧ acc.length < sizeLine ∧ Nx (upd H4 D (.lst (acc ++ [y]))) else Nx H3) := by
  intro D hD
  have nD := D0.not hD
  refine lc_range (fun i H' => ∃ acc, DrS h pc H H' ∧ H' D = some (.lst acc) ∧ acc.length = i ∧ ∀ y ∈ acc, Pe y) ⟨[], DrS.of D0 (same_upd hD), upd_same, rfl, fun y hy => absurd hy List.not_mem_nil⟩ (fun i H2 hi h2 => ?_) fun H' h2 => ?_
  · rw [hw]
    obtain ⟨acc, s2, hd, hl, hP⟩ := h2
    refine he i H2 _ hi s2 fun y H4 hy s4 => ?_
    have hd4 := s4.get hd nD
    refine ⟨acc, hd4, small1000 (by omega), acc ++ [y], ?_, upd_same, by rw [List.length_append, hl]; rfl, fun z hz => ?_⟩
    · have s24 := s2.trans s4
      refine ⟨fun b o hb nb => ?_, ?_⟩
      · rw [upd_ne (ne_of_none hb hD)]
        exact s24.bt b o hb nb
      · obtain ⟨st, ix, cs, h1, h3, r⟩ := s24.dr.ex
        have n1 : h ≠ D := fun e => nD (by rw [e]; exact List.mem_cons_self)
        have n2 : pc ≠ D := fun e => nD (by rw [e]; exact List.mem_cons_of_mem _ List.mem_cons_self)
        exact ⟨st, ix, cs, by rw [upd_ne n1]; exact h1, by rw [upd_ne n2]; exact h3, r⟩
    · rcases List.mem_append.mp hz with m | m
      · exact hP z m
      · rw [List.mem_singleton.mp m]
        exact hy
  · obtain ⟨acc, s2, hd, hl, hP⟩ := h2
    exact q D H' acc hD s2 hd hl hP
theorem ints_of : ∀ {ys : List V} {p : Int → Prop}, (∀ y ∈ ys, ∃ z, y = V.int z ∧ p z) → ∃ ns : List Int, ys = ns.map V.int ∧ ∀ z ∈ ns, p z
  | [], _, _ => ⟨[], rfl, fun _ hz => absurd hz List.not_mem_nil⟩
  | y :: r, p, h => by
    obtain ⟨z, rfl, hz⟩ := h y List.mem_cons_self
    obtain ⟨ns, e, hn⟩ := ints_of (ys := r) (p := p) fun x hx => h x (List.mem_cons_of_mem _ hx)
    refine ⟨z :: ns, by rw [e]; rfl, fun u hu => ?_⟩
    rcases List.mem_cons.mp hu with m | m
    · rw [m]
      exact hz
    · exact hn u m
theorem DrS.upd {H H2 : Hp} {h pc D : Addr} {o : HO} (s : DrS h pc H H2) (hD : H D = none) (n : D ∉ [h, pc]) : DrS h pc H (upd H2 D o) := by
  refine ⟨fun b ob hb nb => ?_, ?_⟩
  · rw [upd_ne (ne_of_none hb hD)]
    exact s.bt b ob hb nb
  · obtain ⟨st, ix, cs, h1, h3, r⟩ := s.dr.ex
    have n1 : h ≠ D := fun e => n (by rw [e]; exact List.mem_cons_self)
    have n2 : pc ≠ D := fun e => n (by rw [e]; exact List.mem_cons_of_mem _ List.mem_cons_self)
    exact ⟨st, ix, cs, by rw [upd_ne n1]; exact h1, by rw [upd_ne n2]; exact h3, r⟩
/-- a machine's parts, drawn -/
def spParts (K : PySem.W.Frag) : Sp := fun vs H Q _ => ∃ (h pc : Addr) (L : Nat), vs = [.ref h, .int L] ∧ Dr H h pc ∧ 1 ≤ L ∧ L ≤ 3 ∧
  ∀ p v vg rows gs H', DrS h pc H H' → SqT K H' p [v, vg] → RowsT K H' v rows → IntsT K H' vg gs → OkM L rows gs → Q (.ref p) H'
theorem two_ints {a b : Int} {i : Nat} {x : V} (h : [V.int a, V.int b][i]? = some x) : x = .int a ∨ x = .int b := by
  rcases List.mem_cons.mp (List.mem_of_getElem? h) with e | e
  · exact .inl e
  · exact .inr (List.mem_singleton.mp e)
/-- between two turns of the drawn parts -/
structure PartsAt (K : PySem.W.Frag) (H : Hp) (h pc ls lg : Addr) (L : Nat) (many : Int) (i : Nat) (H2 : Hp) : Prop where
  ex : ∃ (xs : List V) (rows : List (List Int)) (gs : List Int), DrS h pc H H2 ∧ H2 ls = some (.lst xs) ∧ H2 lg = some (.lst (gs.map V.int)) ∧ xs.length = i ∧ rows.length = i ∧
    (∀ (j : Nat) (x : V) (r : List Int), xs[j]? = some x → rows[j]? = some r → IntsT K H2 x r) ∧ (∀ r ∈ rows, r.length = L ∧ ∀ z ∈ r, 0 ≤ z ∧ z < many) ∧ (∀ z ∈ gs, 0 ≤ z ∧ z < (i : Int)) ∧ gs.Pairwise (· < ·) ∧ gs.length ≤ i
theorem asc_snoc {gs : List Int} {i : Int} (h : gs.Pairwise (· < ·)) (hz : ∀ z ∈ gs, 0 ≤ z ∧ z < i) : (gs ++ [i]).Pairwise (· < ·) := by
  rw [List.pairwise_append]
  refine ⟨h, List.pairwise_singleton _ _, fun a ha b hb => ?_⟩
  rw [List.mem_singleton.mp hb]
  exact (hz a ha).2
theorem at_snoc {α : Type} {l : List α} {x y : α} {j : Nat} (h : (l ++ [x])[j]? = some y) : (j < l.length ∧ l[j]? = some y) ∨ (j = l.length ∧ y = x) := by
  by_cases hj : j < l.length
  · rw [List.getElem?_append_left hj] at h
    exact .inl ⟨hj, h⟩
  · rw [List.getElem?_append_right (by omega)] at h
    have hk : j - l.length = 0 := by
      have := (List.getElem?_eq_some_iff.mp h).1
      simp only [List.length_cons, List.length_nil] at this
      omega
    rw [hk] at h
    exact .inr ⟨by omega, (Option.some.inj h).symm⟩
theorem ok__law_parts (T : TxtP P K mg) : FnOk P w K mg base CX0 3 T.a__law_parts T.fd__law_parts ["_law_h", "_law_letters"] (spParts K) := by
  refine T.F__law_parts.ok sc__law_parts (fun vs H Q E h => ?_) (fun cdv A outer s H vs Q E hr h => ?_)
  · obtain ⟨h, pc, L, rfl, _⟩ := h
    rfl
  · obtain ⟨h, pc, L, rfl, D0, l1, l3, q⟩ := h
    refine ⟨_, (pss_cons (ps_asg (pe_tup (pa_cons (pe_op (r := rAddU K) op_addU pe_int (pe_call (ok__law_next T) (hr.mono (by decide)) (by rfl) T.g__law_next T.F__law_next.kp T.b__law_next .nil pass0 (pa_cons (pv 0) (pa_cons (pe_call (ok__law_pick T) (hr.mono (by decide)) (by rfl) T.g__law_pick T.F__law_pick.kp T.b__law_pick .nil pass0 (pa_cons (pv 0) (pa_cons (pe_lst (pa_cons pe_int (pa_cons pe_int pa_nil))) pa_nil))) pa_nil)))) (pa_cons (pe_call (ok__law_next T) (hr.mono (by decide)) (by rfl) T.g__law_next T.F__law_next.kp T.b__law_next .nil pass0 (pa_cons (pv 0) (pa_cons pe_int pa_nil))) pa_nil))) (pg_tup rfl (pgs_cons (pg_name (i := 2) sc__law_parts.nd rfl (Or.inr rfl)) (pgs_cons (pg_name (i := 3) sc__law_parts.nd rfl (Or.inl rfl)) pgs_nil))))
 (pss_cons (ps_par (i := 4) (j := 5) (by rfl) sc__law_parts.nd rfl rfl (by decide) rfl rfl (pa_cons (pe_lst pa_nil) (pa_cons (pe_lst pa_nil) pa_nil)) (by rfl))
 (pss_cons (ps_for PassesOwn.never rfl (pi_range1 rfl T.z_range (pa_cons (pv 2) pa_nil)) (pg_name (i := 6) sc__law_parts.nd rfl (Or.inl rfl))
 (pss_cons (ps_set (i := 7) sc__law_parts.nd rfl (Or.inr rfl) (pe_ifExp (PW.pt (pw_and (pt_cmpR op_lt (pv 6) (pv 3) (nomark _)) (pw_and1 (pt_cmpR op_lt (pe_op (r := rAddU K) op_addU (pv 6) pe_int) (pv 2) (nomark _))))) (pe_op (r := rAddU K) op_addU (pv 6) pe_int) (pe_call (ok__law_pick T) (hr.mono (by decide)) (by rfl) T.g__law_pick T.F__law_pick.kp T.b__law_pick .nil pass0 (pa_cons (pv 0) (pa_cons (pe_lst (pa_cons pe_int (pa_cons (pe_callB (call_minU rfl) (by rfl) T.z_min (by decide +kernel) (pa_cons (pv 3) (pa_cons (pe_op op_sub (pv 2) pe_int) pa_nil))) pa_nil))) pa_nil)))))
 (pss_cons (ps_expr (pe_bm PySem.F.plainAttrs_list PySem.F.slot_list_append PySem.F.type_list_append mt_append (pv 4) (pa_cons (pe_callTy (r := rTupU K) call_tupU (by rfl) T.z_tuple (by decide +kernel) (pa_cons (pe_lc (own := [("_law_letter", 8)]) (g := (gName 8)) (tt := tYes) rfl sc__law_parts.nd (pi_range1 rfl T.z_range (pa_cons (pv 1) pa_nil)) (blkOk_by (N := ["_law_h", "_law_letters", "_law_many", "_law_early", "_law_steps", "_law_good", "_law_stand", "_law_low", "_law_letter"]) (sc := defScope s__law_parts) (by decide +kernel)) (fun _ _ _ _ _ => (pg_name (i := 8) sc__law_parts.nd rfl (Or.inl rfl))) (fun _ _ _ _ _ => pts_nil) (fun _ _ _ _ _ => (pe_op (r := rAddU K) op_addU (pv 7) (pe_call (ok__law_next T) (hr.mono (by decide)) (by rfl) T.g__law_next T.F__law_next.kp T.b__law_next .nil pass0 (pa_cons (pv 0) (pa_cons (pe_op op_sub (pv 2) (pv 7)) pa_nil)))))) pa_nil)) pa_nil)))
 (pss_one (ps_if (pt_cmpR (r := rEqU K) (op_eqU hr.units) (pe_call (ok__law_next T) (hr.mono (by decide)) (by rfl) T.g__law_next T.F__law_next.kp T.b__law_next .nil pass0 (pa_cons (pv 0) (pa_cons pe_int pa_nil))) pe_int (nomark _)) (pss_one (ps_expr (pe_bm PySem.F.plainAttrs_list PySem.F.slot_list_append PySem.F.type_list_append mt_append (pv 5) (pa_cons (pv 6) pa_nil)))) pss_nil)))))
 (pss_one (ps_ret (pe_tup (pa_cons (pe_callTy (r := rTupU K) call_tupU (by rfl) T.z_tuple (by decide +kernel) (pa_cons (pv 4) pa_nil)) (pa_cons (pe_callTy (r := rTupU K) call_tupU (by rfl) T.z_tuple (by decide +kernel) (pa_cons (pv 5) pa_nil)) pa_nil)))))))), ?_⟩
    refine st0 (σ' := [some _, some _, none, none, none, none, none, none, none]) rfl ?_
    walk_at "go"
    refine al_l (sz1000 (by show 2 ≤ 1000; decide)) fun p1 H1 n1 e1 h1 _ => ?_
    walk_at "go"
    refine ⟨h, pc, p1, _, rfl, D0.same e1, by show 0 < 2; decide, by show 2 ≤ 1000; decide, .inr ⟨h1, D0.not n1⟩, fun i x H2 hx s2 => ?_⟩
    have d2 : DrS h pc H H2 := (DrS.of D0 e1).trans s2
    obtain ⟨c, rfl, c1, c8⟩ : ∃ c, x = V.int c ∧ 3 ≤ c ∧ c ≤ 8 := by
      rcases two_ints hx with e | e
      · exact ⟨3, e, by decide, by decide⟩
      · exact ⟨8, e, by decide, by decide⟩
    walk_at "go"
    refine ⟨h, pc, c, rfl, s2.dr, by omega, by omega, fun m H3 m0 m1 s3 => ?_⟩
    walk_at "go"
    refine ⟨h, pc, 5, rfl, s3.dr, by decide, by decide, fun early H4 y0 y1 s4 => ?_⟩
    walk_at "go"
    refine al_t (sz1000 (by show 2 ≤ 1000; decide)) fun p5 H5 n5 e5 h5 _ => ?_
    have d5 : DrS h pc H H5 := ((d2.trans s3).trans s4).trans (DrS.of s4.dr e5)
    generalize hm : (1 : Int) + m = many at h5 ⊢
    refine g_pair (sqT h5) (σ' := [some (.ref h), some (.int L), some (.int many), some (.int early), none, none, none, none, none]) rfl ?_
    have a1 : 1 ≤ many := by omega
    have a8 : many ≤ 8 := by omega
    clear hm hx
    walk_at "go"
    refine al_l (sz1000 (by show 0 ≤ 1000; decide)) fun ls H6 n6 e6 h6 _ => ?_
    walk_at "go"
    refine al_l (sz1000 (by show 0 ≤ 1000; decide)) fun lg H7 n7 e7 h7 _ => ?_
    have d7 : DrS h pc H H7 := d5.trans (DrS.of d5.dr (e6.trans e7))
    have back : ∀ b, H5 b = none → H b = none ∧ b ∉ [h, pc] := by
      intro b hb
      have nb := d5.dr.not hb
      cases hq : H b with
      | none => exact ⟨rfl, nb⟩
      | some o =>
        rw [d5.bt b o hq nb] at hb
        cases hb
    obtain ⟨hls, nls⟩ := back ls n6
    obtain ⟨hlg, nlg⟩ := back lg (e6.free n7)
    have nlsg : ls ≠ lg := fun e => by
      rw [e] at h6
      rw [h6] at n7
      cases n7
    walk_at "go"
    refine ⟨_, _, rfl, ?_⟩
    refine nxs (σ' := [some (.ref h), some (.int L), some (.int many), some (.int early), some (.ref ls), some (.ref lg), none, none, none]) rfl ?_
    walk_at "go"
    refine f_forR ?_
    walk_at "go"
    refine ⟨many, rfl, by omega, by omega, for_range (fun i σ H2 => ∃ y6 y7, σ = [some (.ref h), some (.int L), some (.int many), some (.int early), some (.ref ls), some (.ref lg), y6, y7, none] ∧ PartsAt K H h pc ls lg L many i H2)
      ⟨none, none, rfl, ⟨[], [], [], d7, e7 _ _ h6, h7, rfl, rfl, fun j x r hx => absurd hx (by simp), fun r hr => absurd hr List.not_mem_nil, fun z hz => absurd hz List.not_mem_nil, List.Pairwise.nil, Nat.le_refl _⟩⟩ (fun i σ H2 hi hp => ?_) (fun σ H2 hp => ?_)⟩
    · obtain ⟨y6, y7, rfl, ⟨xs, rows, gs, d, gls, glg, lx, lr, hrow, hok, hgs, hasc, hgl⟩⟩ := hp
      have hi2 : (i : Int) < many := by omega
      refine g_n6 ?_
      refine s_seq ?_
      refine s_asg ?_
      refine e_cut (fun v H3 => ∃ low, v = V.int low ∧ 0 ≤ low ∧ low < many ∧ DrS h pc H2 H3) (fun R hR => ?_) ?_
      · -- the lowest goal
        have other : ∀ σ', mkL (fun x H1 => tNil σ' H1 fun xs H2 => spPick K (V.ref h :: x :: xs) H2 R E0) [V.int 0, V.int (if many - 1 < early then many - 1 else early)] H2 := by
          intro σ'
          refine al_l (sz1000 (by show 2 ≤ 1000; decide)) fun p3 H4 n3 e3 h3 _ => ?_
          walk_at "go"
          refine ⟨h, pc, p3, _, rfl, d.dr.same e3, by show 0 < 2; decide, by show 2 ≤ 1000; decide, .inr ⟨h3, d.dr.not n3⟩, fun k x H5 hx s5 => ?_⟩
          have d5 : DrS h pc H2 H5 := (DrS.of d.dr e3).trans s5
          rcases two_ints hx with e | e
          · exact hR _ _ ⟨0, e, by decide, by omega, d5⟩
          · refine hR _ _ ⟨_, e, ?_, ?_, d5⟩
            · split <;> omega
            · split <;> omega
        walk_at "go"
        refine i_d (fun b1 => ?_) (fun b1 => ?_)
        · walk_at "go"
          refine i_d (fun b2 => ?_) (fun b2 => ?_)
          · walk_at "go"
            exact hR _ _ ⟨_, rfl, by omega, b2, DrS.refl d.dr⟩
          · walk_at "go"
            exact other _
        · walk_at "go"
          exact other _
      · rintro v H3 ⟨low, rfl, lo0, lo1, s3⟩
        have d3 := d.trans s3
        have gls3 := s3.get gls nls
        have glg3 := s3.get glg nlg
        walk_at "go"
        refine ⟨ty_l rfl gls3, ?_⟩
        walk_at "go"
        refine e_lcR ?_
        walk_at "go"
        refine ⟨L, rfl, by omega, by omega, ?_⟩
        rw [show ((L : Int)).toNat = L from Int.toNat_natCast L]
        refine comp_dr (h := h) (pc := pc) (n := L) (fun y => ∃ z, y = V.int z ∧ 0 ≤ z ∧ z < many) (σw := [some (.ref h), some (.int L), some (.int many), some (.int early), some (.ref ls), some (.ref lg), some (.int (0 + (i : Nat))), some (.int low), none]) rfl (by omega) s3.dr ?_ ?_
        · intro k H4 R hk s4 hR
          walk_at "go"
          refine ⟨rfl, ?_⟩
          walk_at "go"
          refine ⟨h, pc, _, rfl, s4.dr, by omega, by omega, fun z H5 z0 z1 s5 => ?_⟩
          walk_at "go"
          exact hR _ _ ⟨_, rfl, by omega, by omega⟩ s5
        · intro D4 H4 ys n4 s4 h4 hly hys
          obtain ⟨ns, rfl, hns⟩ := ints_of hys
          rw [List.length_map] at hly
          walk_at "go"
          refine tup_l (sqL h4) fun p5 H5 n5 e5 h5 _ => ?_
          have s5 : DrS h pc H2 H5 := (s3.trans s4).trans (DrS.of s4.dr e5)
          have gls5 := s5.get gls nls
          have glg5 := s5.get glg nlg
          walk_at "go"
          refine app_l gls5 (by omega) ?_
          walk_at "go"
          have nl5 : NL H2 H5 := d.dr.nl s5.bt
          generalize hH6 : upd H5 ls (.lst (xs ++ [V.ref p5])) = H6
          have nl6 : NL H5 H6 := by
            rw [← hH6]
            exact upd_lst_nl gls5
          have g6 : H6 ls = some (.lst (xs ++ [V.ref p5])) := by
            rw [← hH6]
            exact upd_same
          have g6g : H6 lg = some (.lst (gs.map V.int)) := by
            rw [← hH6, upd_ne (Ne.symm nlsg)]
            exact glg5
          have d6 : DrS h pc H H6 := by
            rw [← hH6]
            exact (d.trans s5).upd hls nls
          clear hH6
          refine ⟨h, pc, 2, rfl, d6.dr, by decide, by decide, fun z H7 z0 z1 s7 => ?_⟩
          have d7 := d6.trans s7
          have g7 := s7.get g6 nls
          have g7g := s7.get g6g nlg
          have nl7 : NL H2 H7 := (nl5.trans nl6).trans (d6.dr.nl s7.bt)
          have hp7 : SqT K H7 p5 (ns.map V.int) := ((nl6.trans (d6.dr.nl s7.bt)).t (sqT h5))
          have hrow' : ∀ (j : Nat) (x : V) (r : List Int), (xs ++ [V.ref p5])[j]? = some x → (rows ++ [ns])[j]? = some r → IntsT K H7 x r := by
            intro j x r hx hr
            rcases at_snoc hx with ⟨_, hx⟩ | ⟨hj, rfl⟩
            · rcases at_snoc hr with ⟨_, hr⟩ | ⟨hj, rfl⟩
              · exact (hrow j x r hx hr).nl nl7
              · omega
            · rcases at_snoc hr with ⟨_, hr⟩ | ⟨hj, rfl⟩
              · omega
              · exact ⟨p5, rfl, hp7⟩
          have hok' : ∀ r ∈ rows ++ [ns], r.length = L ∧ ∀ z ∈ r, 0 ≤ z ∧ z < many := by
            intro r hr
            rcases List.mem_append.mp hr with m | m
            · exact hok r m
            · rw [List.mem_singleton.mp m]
              exact ⟨hly, hns⟩
          walk_at "go"
          refine i_d (fun _ => ?_) (fun _ => ?_)
          · walk_at "go"
            refine ⟨ty_l rfl g7g, ?_⟩
            walk_at "go"
            refine app_l g7g (by rw [List.length_map]; omega) ?_
            walk_at "go"
            refine ⟨_, _, rfl, ⟨xs ++ [V.ref p5], rows ++ [ns], gs ++ [(0 + (i : Nat) : Int)], d7.upd hlg nlg, by rw [upd_ne nlsg]; exact g7, by rw [upd_same, List.map_append]; rfl, by rw [List.length_append, lx]; rfl, by rw [List.length_append, lr]; rfl, ?_, hok', ?_, ?_, ?_⟩⟩
            · intro j x r hx hr
              exact (hrow' j x r hx hr).nl (upd_lst_nl g7g)
            · intro z hz
              rcases List.mem_append.mp hz with m | m
              · have := hgs z m
                omega
              · have := List.mem_singleton.mp m
                omega
            · rw [Int.zero_add]
              exact asc_snoc hasc hgs
            · rw [List.length_append]
              show gs.length + 1 ≤ i + 1
              omega
          · walk_at "go"
            exact ⟨_, _, rfl, ⟨xs ++ [V.ref p5], rows ++ [ns], gs, d7, g7, g7g, by rw [List.length_append, lx]; rfl, by rw [List.length_append, lr]; rfl, hrow', hok', fun z hz => by have := hgs z hz; omega, hasc, by omega⟩⟩
    · obtain ⟨y6, y7, rfl, ⟨xs, rows, gs, d, gls, glg, lx, lr, hrow, hok, hgs, hasc, hgl⟩⟩ := hp
      walk_at "go"
      refine tup_l (sqL gls) fun p8 H8 n8 e8 h8 _ => ?_
      walk_at "go"
      refine tup_l (sqL (e8 _ _ glg)) fun p9 H9 n9 e9 h9 _ => ?_
      walk_at "go"
      refine al_t (sz1000 (by show 2 ≤ 1000; decide)) fun p10 H10 n10 e10 h10 _ => ?_
      walk_at "go"
      have e89 := (e8.trans e9).trans e10
      refine q p10 _ _ rows gs H10 (d.trans (DrS.of d.dr e89)) (sqT h10) ⟨p8, xs, rfl, sqT ((e9.trans e10) _ _ h8), by omega, fun j x r hx hr => (hrow j x r hx hr).nl e89.nl⟩ ⟨p9, rfl, sqT (e10 _ _ h9)⟩ ⟨by omega, by omega, l1, l3, ?_, ?_, hasc⟩
      · intro r hr
        have := hok r hr
        exact ⟨this.1, fun z hz => ⟨(this.2 z hz).1, by have := (this.2 z hz).2; omega⟩⟩
      · intro z hz
        have := hgs z hz
        omega
/-! ### _law_changed -/
theorem ln_of {M : Nat} {ws : List Str} {z : Str} (h : Ln M z) (hm : ∀ w ∈ ws, (∃ v ∈ splS z, w = v) ∨ Ln 4 w) (hs : (ws.map (·.length)).sum + ws.length ≤ M + 6) : Ln (M + 5) (Txt.join (" " : Str) ws) := by
  refine Ln.join (fun w hw => ?_) (fun w hw => ?_) hs
  · rcases hm w hw with ⟨v, hv, rfl⟩ | hv
    · exact splS_nn h _ hv
    · exact hv.nn
  · rcases hm w hw with ⟨v, hv, rfl⟩ | hv
    · exact splS_sm h _ hv
    · exact hv.sm
theorem ln_cut {M k : Nat} {z : Str} (h : Ln M z) : Ln (M + 5) (Txt.join (" " : Str) ((splS z).take k)) := by
  refine ln_of h (fun w hw => .inl ⟨w, List.mem_of_mem_take hw, rfl⟩) ?_
  have h1 := sum_sub (splS z) k
  have h2 := splS_sum z
  have h3 := h.ln
  omega
theorem ln_ins {M k k2 : Nat} {z w : Str} (h : Ln M z) (hw : Ln 4 w) (hk : k ≤ k2) : Ln (M + 5) (Txt.join (" " : Str) ((splS z).take k ++ [w] ++ (splS z).drop k2)) := by
  refine ln_of h (fun x hx => ?_) ?_
  · rcases List.mem_append.mp hx with hx | hx
    · rcases List.mem_append.mp hx with hx | hx
      · exact .inl ⟨x, List.mem_of_mem_take hx, rfl⟩
      · rw [List.mem_singleton.mp hx]
        exact .inr hw
    · exact .inl ⟨x, List.mem_of_mem_drop hx, rfl⟩
  · have h1 := sum_sub (splS z) k
    have h2 := splS_sum z
    have h3 := h.ln
    have h4 := hw.ln
    have h5 := drop_sum ((splS z).drop k) (k2 - k)
    rw [List.drop_drop, show k + (k2 - k) = k2 by omega] at h5
    rw [List.map_append, List.map_append, List.sum_append, List.sum_append, List.length_append, List.length_append]
    simp only [List.map_cons, List.map_nil, List.sum_cons, List.sum_nil, List.length_cons, List.length_nil]
    omega
theorem join_size {M : Nat} {ws : List Str} (h : (ws.map (·.length)).sum + ws.length ≤ 10000) : (ws.map (·.length)).sum + ws.length * (" " : Str).length ≤ 16777216 := by
  have e : (" " : Str).length = 1 := by decide +kernel
  rw [e]
  omega
theorem lines_put {M sp j : Nat} {lines : List Str} {zl : Str} (h : ∀ z ∈ lines, Ln M z) (hz : Ln (M + 5) zl) (hj : sp ≤ j) : (lines.take sp ++ [zl] ++ lines.drop j) ≠ [] ∧ (lines.take sp ++ [zl] ++ lines.drop j).length ≤ lines.length + 8 ∧ ∀ z ∈ lines.take sp ++ [zl] ++ lines.drop j, Ln (M + 5) z := by
  refine ⟨by simp, ?_, fun z hzm => ?_⟩
  · rw [List.length_append, List.length_append, List.length_take, List.length_drop]
    simp only [List.length_cons, List.length_nil]
    omega
  · rcases List.mem_append.mp hzm with hx | hx
    · rcases List.mem_append.mp hx with hx | hx
      · exact (h z (List.mem_of_mem_take hx)).mono (by omega)
      · rw [List.mem_singleton.mp hx]
        exact hz
    · exact (h z (List.mem_of_mem_drop hx)).mono (by omega)
theorem map_put (xs ys : List Str) (z : Str) : xs.map V.str ++ [V.str z] ++ ys.map V.str = (xs ++ [z] ++ ys).map V.str := by simp
theorem rep_map (xs : List Str) : ∀ n : Nat, (List.replicate n (xs.map V.str)).flatten = ((List.replicate n xs).flatten).map V.str
  | 0 => rfl
  | n + 1 => by
    rw [List.replicate_succ, List.replicate_succ, List.flatten_cons, List.flatten_cons, List.map_append, rep_map xs n]
theorem rep_len (xs : List Str) : ∀ n : Nat, ((List.replicate n xs).flatten).length = n * xs.length
  | 0 => by simp
  | n + 1 => by
    rw [List.replicate_succ, List.flatten_cons, List.length_append, rep_len xs n, Nat.succ_mul]
    omega
theorem rep_mem {xs : List Str} {n : Nat} {z : Str} (h : z ∈ (List.replicate n xs).flatten) : z ∈ xs := by
  obtain ⟨l, hl, hz⟩ := List.mem_flatten.mp h
  rw [(List.mem_replicate.mp hl).2] at hz
  exact hz
def spChanged (K : PySem.W.Frag) : Sp := fun vs H Q _ => ∃ (h pc a o : Addr) (M : Nat) (lines odd : List Str), vs = [.ref h, .ref a, .ref o] ∧ Dr H h pc ∧ H a = some (.lst (lines.map V.str)) ∧ a ∉ [h, pc] ∧ H o = some (.lst (odd.map V.str)) ∧ o ∉ [h, pc] ∧ lines ≠ [] ∧ lines.length ≤ 100 ∧ M ≤ 800 ∧ (∀ z ∈ lines, Ln M z) ∧ odd ≠ [] ∧ odd.length ≤ 100 ∧ (∀ w ∈ odd, Ln 4 w) ∧
  ∀ p ls H', DrS h pc H H' → H' p = some (.lst (ls.map V.str)) → p ∉ [h, pc] → ls ≠ [] → ls.length ≤ lines.length + 8 → (∀ z ∈ ls, Ln (M + 5) z) → Q (.ref p) H'
theorem ok__law_changed (T : TxtP P K mg) : FnOk P w K mg base CX0 3 T.a__law_changed T.fd__law_changed ["_law_h", "_law_lines", "_law_odd"] (spChanged K) := by
  refine T.F__law_changed.ok sc__law_changed (fun vs H Q E h => ?_) (fun cdv A outer s H vs Q E hr h => ?_)
  · obtain ⟨h, pc, a, o, M, lines, odd, rfl, _⟩ := h
    rfl
  · obtain ⟨h, pc, a, o, M, lines, odd, rfl, D, ha, na, ho, no, hne, hn1, hM, hLn, hone, hol, hoL, q⟩ := h
    refine ⟨_, (pss_cons (ps_par (i := 3) (j := 4) (by rfl) sc__law_changed.nd rfl rfl (by decide) rfl rfl (pa_cons (pe_call (ok__law_next T) (hr.mono (by decide)) (by rfl) T.g__law_next T.F__law_next.kp T.b__law_next .nil pass0 (pa_cons (pv 0) (pa_cons (pe_callB (r := rLenU K) call_lenU (by rfl) T.z_len (by decide +kernel) (pa_cons (pv 1) pa_nil)) pa_nil))) (pa_cons (pe_call (ok__law_next T) (hr.mono (by decide)) (by rfl) T.g__law_next T.F__law_next.kp T.b__law_next .nil pass0 (pa_cons (pv 0) (pa_cons pe_int pa_nil))) pa_nil)) (by rfl))
 (pss_cons (ps_set (i := 5) sc__law_changed.nd rfl (Or.inl rfl) (pe_split (pe_ix (r := rIx K) ix_seq (pv 1) (pv 3) (fun _ _ => rfl)) pe_str))
 (pss_cons (ps_set (i := 6) sc__law_changed.nd rfl (Or.inl rfl) (pe_call (ok__law_next T) (hr.mono (by decide)) (by rfl) T.g__law_next T.F__law_next.kp T.b__law_next .nil pass0 (pa_cons (pv 0) (pa_cons (pe_op (r := rAddU K) op_addU (pe_callB (r := rLenU K) call_lenU (by rfl) T.z_len (by decide +kernel) (pa_cons (pv 5) pa_nil)) pe_int) pa_nil))))
 (pss_cons (ps_if (pt_cmpR op_lt (pv 4) pe_int (nomark _)) (pss_cons (ps_set (i := 7) sc__law_changed.nd rfl (Or.inl rfl) (pe_join pe_str (pe_op (r := rAddU K) op_addU (pe_op (r := rAddU K) op_addU (pe_slice (r := rSlU K) sl_U (pv 5) po_none (po_some (pv 6))) (pe_lst (pa_cons (pe_call (ok__law_pick T) (hr.mono (by decide)) (by rfl) T.g__law_pick T.F__law_pick.kp T.b__law_pick .nil pass0 (pa_cons (pv 0) (pa_cons (pv 2) pa_nil))) pa_nil))) (pe_slice (r := rSlU K) sl_U (pv 5) (po_some (pe_op (r := rAddU K) op_addU (pv 6) (pe_callB (call_minU rfl) (by rfl) T.z_min (by decide +kernel) (pa_cons (pv 4) (pa_cons pe_int pa_nil))))) po_none))))
 (pss_one (ps_ret (pe_op (r := rAddU K) op_addU (pe_op (r := rAddU K) op_addU (pe_slice (r := rSlU K) sl_U (pv 1) po_none (po_some (pv 3))) (pe_lst (pa_cons (pv 7) pa_nil))) (pe_slice (r := rSlU K) sl_U (pv 1) (po_some (pe_op (r := rAddU K) op_addU (pv 3) pe_int)) po_none))))) pss_nil)
 (pss_cons (ps_if (pt_cmpR (r := rEqU K) (op_eqU hr.units) (pv 4) pe_int (nomark _)) (pss_one (ps_ret (pe_op (r := rAddU K) op_addU (pe_op (r := rAddU K) op_addU (pe_slice (r := rSlU K) sl_U (pv 1) po_none (po_some (pv 3))) (pe_lst (pa_cons (pe_join pe_str (pe_slice (r := rSlU K) sl_U (pv 5) po_none (po_some (pv 6)))) pa_nil))) (pe_slice (r := rSlU K) sl_U (pv 1) (po_some (pe_op (r := rAddU K) op_addU (pv 3) pe_int)) po_none)))) pss_nil)
 (pss_cons (ps_if (pt_cmpR (r := rEqU K) (op_eqU hr.units) (pv 4) pe_int (nomark _)) (pss_one (ps_ret (pe_op (r := rAddU K) op_addU (pe_op (r := rAddU K) op_addU (pe_slice (r := rSlU K) sl_U (pv 1) po_none (po_some (pe_op (r := rAddU K) op_addU (pv 3) pe_int))) (pe_lst (pa_cons (pe_call (ok__law_pick T) (hr.mono (by decide)) (by rfl) T.g__law_pick T.F__law_pick.kp T.b__law_pick .nil pass0 (pa_cons (pv 0) (pa_cons (pe_lst (pa_cons pe_str (pa_cons pe_str (pa_cons (pe_ix (r := rIx K) ix_seq (pv 1) (pv 3) (fun _ _ => rfl)) (pa_cons pe_str pa_nil))))) pa_nil))) pa_nil))) (pe_slice (r := rSlU K) sl_U (pv 1) (po_some (pe_op (r := rAddU K) op_addU (pv 3) pe_int)) po_none)))) pss_nil)
 (pss_cons (ps_if (pt_cmpR (r := rEqU K) (op_eqU hr.units) (pv 4) pe_int (nomark _)) (pss_one (ps_ret (pe_slice (r := rSlU K) sl_U (pv 1) po_none (po_some (pe_callB (call_maxU rfl) (by rfl) T.z_max (by decide +kernel) (pa_cons pe_int (pa_cons (pv 3) pa_nil))))))) pss_nil)
 (pss_cons (ps_set (i := 8) sc__law_changed.nd rfl (Or.inl rfl) (pe_op (r := rAddU K) op_addU pe_int (pe_op op_mulU pe_int (pe_call (ok__law_next T) (hr.mono (by decide)) (by rfl) T.g__law_next T.F__law_next.kp T.b__law_next .nil pass0 (pa_cons (pv 0) (pa_cons pe_int pa_nil))))))
 (pss_one (ps_ret (pe_op (r := rAddU K) op_addU (pv 1) (pe_op op_mulU (pe_slice (r := rSlU K) sl_U (pv 1) po_none (po_some pe_int)) (pv 8))))))))))))), ?_⟩
    refine st0 (σ' := [some _, some _, some _, none, none, none, none, none, none]) rfl ?_
    have hpos : 0 < lines.length := List.length_pos_iff.mpr hne
    walk_at "go"
    refine len_l (sqL ha) ?_
    walk_at "go"
    rw [List.length_map]
    refine ⟨h, pc, _, rfl, D, by omega, by omega, fun r1 H1 r10 r11 d1 => ?_⟩
    obtain ⟨sp, rfl⟩ := Int.eq_ofNat_of_zero_le r10
    walk_at "go"
    refine ⟨h, pc, _, rfl, d1.dr, by decide, by decide, fun r2 H2 r20 r21 d2 => ?_⟩
    obtain ⟨kd, rfl⟩ := Int.eq_ofNat_of_zero_le r20
    refine ⟨_, _, rfl, ?_⟩
    refine nxs (σ' := [some (.ref h), some (.ref a), some (.ref o), some (.int (sp : Nat)), some (.int (kd : Nat)), none, none, none, none]) rfl ?_
    have d12 := d1.trans d2
    walk_at "go"
    have hsp : sp < lines.length := by omega
    have hz : lines[sp]? = some lines[sp] := List.getElem?_eq_getElem hsp
    generalize lines[sp] = z at hz
    have hzL := hLn z (List.mem_of_getElem? hz)
    have hz1 := hzL.ln
    refine e_m1 ?_
    walk_at "go"
    refine ix_l (sqL (d12.get ha na)) (atI_nat (by rw [List.getElem?_map, hz]; rfl)) ?_
    refine ⟨⟨_, rfl⟩, ?_⟩
    walk_at "go"
    refine split_r (by omega) fun pr H3 np s3 h3 => ?_
    have nr := d2.dr.not np
    have d3 := d12.trans (DrS.of d2.dr s3)
    walk_at "go"
    refine len_l (sqL h3) ?_
    walk_at "go"
    rw [List.length_map]
    have hrl := splS_len z
    have hrs := splS_sum z
    refine ⟨h, pc, _, rfl, d3.dr, by omega, by omega, fun r4 H4 r40 r41 d4 => ?_⟩
    obtain ⟨k, rfl⟩ := Int.eq_ofNat_of_zero_le r40
    have d34 := d3.trans d4
    have h4 := d4.get h3 nr
    have ha4 := d34.get ha na
    have ho4 := d34.get ho no
    walk_at "go"
    refine i_d (fun hk3 => ?_) (fun hk3 => ?_)
    · walk_at "go"
      refine e_m1 ?_
      walk_at "go"
      refine ⟨⟨_, rfl⟩, ?_⟩
      walk_at "go"
      refine sl_l (sqL h4) fun p5 H5 n5 s5 h5 => ?_
      rw [cut_take, ← List.map_take] at h5
      have d5 := DrS.of d34.dr s5
      have d45 := d34.trans d5
      walk_at "go"
      refine ⟨h, pc, o, odd.map V.str, rfl, d45.dr, by rw [List.length_map]; exact List.length_pos_iff.mpr hone, by rw [List.length_map]; omega, .inr ⟨d45.get ho no, no⟩, fun i x H6 hxi d6 => ?_⟩
      obtain ⟨w, hw, rfl⟩ := List.mem_map.mp (List.mem_of_getElem? hxi)
      have hwL := hoL w hw
      have n5' := d34.dr.not n5
      have h56 := d6.get h5 n5'
      have d6' := d45.trans d6
      walk_at "go"
      refine al_l (sz1000 (by show 1 ≤ 1000; decide)) fun p7 H7 n7 s7 h7 _ => ?_
      walk_at "go"
      refine add_l (s7 _ _ h56) h7 (by simp; omega) fun p8 H8 n8 s8 h8 => ?_
      walk_at "go"
      have ek : ((k : Int) + if (1 : Int) < (kd : Int) then (1 : Int) else (kd : Int)) = ((k + min kd 1 : Nat) : Int) := by split <;> omega
      have ek' : ((Int.ofNat k) + if (1 : Int) < (Int.ofNat kd) then (1 : Int) else (Int.ofNat kd)) = ((k + min kd 1 : Nat) : Int) := ek
      rw [ek]
      refine sl_l (sqL (s8 _ _ (s7 _ _ (d6.get (s5 _ _ h4) nr)))) fun p9 H9 n9 s9 h9 => ?_
      rw [cut_drop, ← List.map_drop] at h9
      refine add_l (s9 _ _ h8) h9 (by simp; omega) fun p10 H10 n10 s10 h10 => ?_
      rw [map_put] at h10
      refine ⟨_, p10, _, rfl, rfl, .inl (sqL h10), join_size (M := M) ?_, ?_⟩
      · have h1 := sum_sub (splS z) k
        have h5 := drop_sum ((splS z).drop k) (min kd 1)
        rw [List.drop_drop] at h5
        have hw4 := hwL.ln
        rw [List.map_append, List.map_append, List.sum_append, List.sum_append, List.length_append, List.length_append]
        simp only [List.map_cons, List.map_nil, List.sum_cons, List.sum_nil, List.length_cons, List.length_nil]
        omega
      · have hline := ln_ins (k2 := k + min kd 1) hzL hwL (Nat.le_add_right k (min kd 1))
        generalize (Txt.join (" " : Str) ((splS z).take k ++ [w] ++ (splS z).drop (k + min kd 1))) = line at hline ⊢
        have s7t := s7.trans (s8.trans (s9.trans s10))
        have dX := d6'.trans (DrS.of d6'.dr s7t)
        walk_at "go"
        refine sl_l (sqL (dX.get ha na)) fun p11 H11 n11 s11 h11 => ?_
        rw [cut_take, ← List.map_take] at h11
        walk_at "go"
        refine al_l (sz1000 (by show 1 ≤ 1000; decide)) fun p12 H12 n12 s12 h12 _ => ?_
        walk_at "go"
        refine add_l (s12 _ _ h11) h12 (by simp; omega) fun p13 H13 n13 s13 h13 => ?_
        walk_at "go"
        refine sl_l (sqL (s13 _ _ (s12 _ _ (s11 _ _ (dX.get ha na))))) fun p14 H14 n14 s14 h14 => ?_
        rw [show ((sp : Int) + 1) = ((sp + 1 : Nat) : Int) by omega, cut_drop, ← List.map_drop] at h14
        refine add_l (s14 _ _ h13) h14 (by simp; omega) fun p15 H15 n15 s15 h15 => ?_
        rw [map_put] at h15
        obtain ⟨e1, e2, e3⟩ := lines_put (sp := sp) (j := sp + 1) hLn hline (by omega)
        have sY := s11.trans (s12.trans (s13.trans s14))
        exact q p15 _ H15 (dX.trans (DrS.of dX.dr (sY.trans s15))) h15 ((dX.trans (DrS.of dX.dr sY)).dr.not n15) e1 e2 e3
    · walk_at "go"
      refine i_d (fun hk4 => ?_) (fun hk4 => ?_)
      · walk_at "go"
        refine sl_l (sqL ha4) fun p5 H5 n5 s5 h5 => ?_
        rw [cut_take, ← List.map_take] at h5
        walk_at "go"
        refine e_m1 ?_
        walk_at "go"
        refine ⟨⟨_, rfl⟩, ?_⟩
        walk_at "go"
        refine sl_l (sqL (s5 _ _ h4)) fun p6 H6 n6 s6 h6 => ?_
        rw [cut_take, ← List.map_take] at h6
        refine ⟨_, p6, _, rfl, rfl, .inl (sqL h6), join_size (M := M) ?_, ?_⟩
        · have h1 := sum_sub (splS z) k
          omega
        · have hline := ln_cut (k := k) hzL
          generalize (Txt.join (" " : Str) ((splS z).take k)) = line at hline ⊢
          walk_at "go"
          refine al_l (sz1000 (by show 1 ≤ 1000; decide)) fun p12 H12 n12 s12 h12 _ => ?_
          walk_at "go"
          refine add_l (s12 _ _ (s6 _ _ h5)) h12 (by simp; omega) fun p13 H13 n13 s13 h13 => ?_
          walk_at "go"
          refine sl_l (sqL (s13 _ _ (s12 _ _ (s6 _ _ (s5 _ _ ha4))))) fun p14 H14 n14 s14 h14 => ?_
          rw [show ((sp : Int) + 1) = ((sp + 1 : Nat) : Int) by omega, cut_drop, ← List.map_drop] at h14
          refine add_l (s14 _ _ h13) h14 (by simp; omega) fun p15 H15 n15 s15 h15 => ?_
          rw [map_put] at h15
          obtain ⟨e1, e2, e3⟩ := lines_put (sp := sp) (j := sp + 1) hLn hline (by omega)
          have sY := s5.trans (s6.trans (s12.trans (s13.trans s14)))
          exact q p15 _ H15 (d34.trans (DrS.of d34.dr (sY.trans s15))) h15 ((d34.trans (DrS.of d34.dr sY)).dr.not n15) e1 e2 e3
      · walk_at "go"
        refine i_d (fun hk5 => ?_) (fun hk5 => ?_)
        · walk_at "go"
          refine sl_l (sqL ha4) fun p5 H5 n5 s5 h5 => ?_
          rw [show ((sp : Int) + 1) = ((sp + 1 : Nat) : Int) by omega, cut_take, ← List.map_take] at h5
          walk_at "go"
          refine ix_l (sqL (s5 _ _ ha4)) (atI_nat (by rw [List.getElem?_map, hz]; rfl)) ?_
          walk_at "go"
          refine al_l (sz1000 (by show 4 ≤ 1000; decide)) fun p6 H6 n6 s6 h6 _ => ?_
          have d5 := d34.trans (DrS.of d34.dr (s5.trans s6))
          have n5' := d34.dr.not n5
          have n6' := (d34.trans (DrS.of d34.dr s5)).dr.not n6
          refine ⟨h, pc, p6, _, rfl, d5.dr, by show 0 < 4; decide, by show 4 ≤ 1000; decide, .inr ⟨h6, n6'⟩, fun i x H7 hxi d7 => ?_⟩
          have hx : ∃ w, x = V.str w ∧ Ln (M + 5) w := by
            have hm := List.mem_of_getElem? hxi
            simp only [List.mem_cons, List.not_mem_nil, or_false] at hm
            rcases hm with e | e | e | e
            · exact ⟨_, e, ⟨by decide +kernel, by have : ("" : Str).length = 0 := by decide +kernel
                                                  omega, by decide +kernel⟩⟩
            · exact ⟨_, e, ⟨by decide +kernel, by have : ("good" : Str).length = 4 := by decide +kernel
                                                  omega, by decide +kernel⟩⟩
            · exact ⟨_, e, hzL.mono (by omega)⟩
            · exact ⟨_, e, ⟨by decide +kernel, by have : ("bad 0" : Str).length = 5 := by decide +kernel
                                                  omega, by decide +kernel⟩⟩
          obtain ⟨line, rfl, hline⟩ := hx
          have d57 := d5.trans d7
          walk_at "go"
          refine al_l (sz1000 (by show 1 ≤ 1000; decide)) fun p12 H12 n12 s12 h12 _ => ?_
          walk_at "go"
          refine add_l (s12 _ _ (d7.get (s6 _ _ h5) n5')) h12 (by simp; omega) fun p13 H13 n13 s13 h13 => ?_
          walk_at "go"
          refine sl_l (sqL (s13 _ _ (s12 _ _ (d57.get ha na)))) fun p14 H14 n14 s14 h14 => ?_
          rw [show ((sp : Int) + 1) = ((sp + 1 : Nat) : Int) by omega, cut_drop, ← List.map_drop] at h14
          refine add_l (s14 _ _ h13) h14 (by simp; omega) fun p15 H15 n15 s15 h15 => ?_
          rw [map_put] at h15
          obtain ⟨e1, e2, e3⟩ := lines_put (sp := sp + 1) (j := sp + 1) hLn hline (by omega)
          have sY := s12.trans (s13.trans s14)
          exact q p15 _ H15 (d57.trans (DrS.of d57.dr (sY.trans s15))) h15 ((d57.trans (DrS.of d57.dr sY)).dr.not n15) e1 e2 e3
        · walk_at "go"
          refine i_d (fun hk6 => ?_) (fun hk6 => ?_)
          · walk_at "go"
            have em : (if (sp : Int) > 1 then (sp : Int) else 1) = ((max 1 sp : Nat) : Int) := by split <;> omega
            rw [em]
            refine sl_l (sqL ha4) fun p5 H5 n5 s5 h5 => ?_
            rw [cut_take, ← List.map_take] at h5
            refine q p5 _ H5 (d34.trans (DrS.of d34.dr s5)) h5 (d34.dr.not n5) (fun e => ?_) ?_ fun z hz => (hLn z (List.mem_of_mem_take hz)).mono (by omega)
            · have := congrArg List.length e
              rw [List.length_take] at this
              simp only [List.length_nil] at this
              omega
            · rw [List.length_take]
              omega
          · walk_at "go"
            refine ⟨h, pc, _, rfl, d34.dr, by decide, by decide, fun r5 H5 r50 r51 d5 => ?_⟩
            obtain ⟨g, rfl⟩ := Int.eq_ofNat_of_zero_le r50
            have d45 := d34.trans d5
            walk_at "go"
            refine mul_i (cmul_l (by decide) (by decide)) ?_
            walk_at "go"
            refine sl_l (sqL (d45.get ha na)) fun p6 H6 n6 s6 h6 => ?_
            rw [show (1 : Int) = ((1 : Nat) : Int) from rfl, cut_take, ← List.map_take] at h6
            walk_at "go"
            have hg2 : (g : Int) < 2 := r51
            have ht1 : ((lines.take 1).map V.str).length = 1 := by
              rw [List.length_map, List.length_take]
              omega
            have hz : sizeLine = 16777216 := sizeLine_eq
            refine .inr ⟨p6, _, _, rfl, rfl, h6, by omega, by omega, ?_, fun p7 n7 => ?_⟩
            · rw [ht1]
              omega
            · obtain ⟨s7, h7⟩ := new_same n7 rfl
              generalize (upd H6 p7 _) = H7 at s7 h7 ⊢
              have en : ((1 : Int) + 7 * (g : Int)).toNat = 1 + 7 * g := by omega
              rw [en, rep_map] at h7
              have hrl := rep_len (lines.take 1) (1 + 7 * g)
              have ht2 : (lines.take 1).length = 1 := by
                rw [List.length_take]
                omega
              rw [ht2] at hrl
              refine add_l (s7 _ _ (s6 _ _ (d45.get ha na))) h7 (by rw [List.length_map, List.length_map]; omega) fun p8 H8 n8 s8 h8 => ?_
              rw [← List.map_append] at h8
              have sY := s6.trans s7
              refine q p8 _ H8 (d45.trans (DrS.of d45.dr (sY.trans s8))) h8 ((d45.trans (DrS.of d45.dr sY)).dr.not n8) (fun e => hne (List.append_eq_nil_iff.mp e).1) (by rw [List.length_append]; omega) fun z hzm => ?_
              rcases List.mem_append.mp hzm with hx | hx
              · exact (hLn z hx).mono (by omega)
              · exact (hLn z (List.mem_of_mem_take (rep_mem hx))).mono (by omega)
/-! ### two values of the same structure -/
inductive Sm (K : PySem.W.Frag) (H : Hp) : Nat → V → V → Prop
  | non {n : Nat} : Sm K H n .non .non
  | bl {n : Nat} (b : Bool) : Sm K H n (.bl b) (.bl b)
  | int {n : Nat} (i : Int) : Sm K H n (.int i) (.int i)
  | str {n : Nat} (z : Str) : Sm K H n (.str z) (.str z)
  | tup {n : Nat} {a b : Addr} {xs ys : List V} (ha : SqT K H a xs) (hb : SqT K H b ys) (hl : xs.length = ys.length) (hs : ys.length ≤ 1000) (h : ∀ (i : Nat) (x y : V), xs[i]? = some x → ys[i]? = some y → Sm K H n x y) : Sm K H (n + 1) (.ref a) (.ref b)
  | lst {n : Nat} {a b : Addr} {xs ys : List V} (ha : H a = some (.lst xs)) (hb : H b = some (.lst ys)) (hl : xs.length = ys.length) (hs : ys.length ≤ 1000) (h : ∀ (i : Nat) (x y : V), xs[i]? = some x → ys[i]? = some y → Sm K H n x y) : Sm K H (n + 1) (.ref a) (.ref b)
theorem Sm.same {K : PySem.W.Frag} {H H' : Hp} (s : Same H H') : ∀ {n : Nat} {x y : V}, Sm K H n x y → Sm K H' n x y := by
  intro n
  induction n with
  | zero =>
    intro x y h
    cases h with
    | non => exact .non
    | bl b => exact .bl b
    | int i => exact .int i
    | str z => exact .str z
  | succ n ih =>
    intro x y h
    cases h with
    | non => exact .non
    | bl b => exact .bl b
    | int i => exact .int i
    | str z => exact .str z
    | tup ha hb hl hs h => exact .tup (s.t ha) (s.t hb) hl hs fun i x y hx hy => ih (h i x y hx hy)
    | lst ha hb hl hs h => exact .lst (s _ _ ha) (s _ _ hb) hl hs fun i x y hx hy => ih (h i x y hx hy)
def spAlike (K : PySem.W.Frag) (n : Nat) : Sp := fun vs H Q _ => ∃ x y, vs = [x, y] ∧ Sm K H n x y ∧ ∀ H', Same H H' → Q (.bl true) H'
/-- no call of it is allowed: for the turn below the last -/
def spNo : Sp := fun _ _ _ _ => False
theorem comp_none {K : PySem.W.Frag} {n : Nat} {g : TG} {tt : TT} {te : TE} {vs : List Nat} {σ σw : St} {H : Hp} {QD : Addr → Hp → Prop} (hw : wipe σ vs = σw)
    (he : ∀ (i : Nat) (H2 : Hp) (R : L2.St → Bool → Hp → Prop), i < n → Same H H2 → (∀ σ2 H4, Same H2 H4 → R σ2 false H4) → g (.int (0 + (i : Nat))) σw H2 fun σ2 H4 => wipe σ2 vs = σw ∧ tt σ2 H4 (R σ2))
    (q : ∀ D H', H D = none → Same H H' → H' D = some (.lst []) → QD D H') :
    ∀ D, H D = none → ∃ W : Nat → Nat → Hp → Prop, (∃ m, W 0 m (upd H D (.lst []))) ∧ ∀ i m H, W i m H →
      ((Itr 0 n).stop i H ∧ QD D H) ∨ ((Itr 0 n).go i H ∧ ∃ Nx : Hp → Prop, (∀ H', Nx H' → ∃ m', m' < m ∧ W (i + 1) m' H') ∧ ∀ x H', (Itr 0 n).yld i H x H' → g x (wipe σ vs) H' fun σ2 H2 => wipe σ2 vs = wipe σ vs ∧ tt σ2 H2 fun b H3 =>
        if b = true then te σ2 H3 fun y H4 => ∃ acc, H4 D = some (.lst acc) ∧ acc.length < sizeLine ∧ Nx (upd H4 D (.lst (acc ++ [y]))) else Nx H3) := by
  intro D hD
  refine lc_range (fun i H' => Same H H' ∧ H' D = some (.lst [])) ⟨same_upd hD, upd_same⟩ (fun i H2 hi h2 => ?_) fun H' h2 => q D H' hD h2.1 h2.2
  rw [hw]
  refine he i H2 (fun σ2 b H3 => if b = true then te σ2 H3 fun y H4 => ∃ acc, H4 D = some (.lst acc) ∧ acc.length < sizeLine ∧ Same H (upd H4 D (.lst (acc ++ [y]))) ∧ upd H4 D (.lst (acc ++ [y])) D = some (.lst []) else Same H H3 ∧ H3 D = some (.lst [])) hi h2.1 fun σ2 H4 s4 => ?_
  refine iteF ?_
  exact ⟨h2.1.trans s4, s4 _ _ h2.2⟩
theorem eq_nil {K : PySem.W.Frag} {H : Hp} {a b : Addr} {Q : VK} (ha : H a = some (.lst [])) (hb : H b = some (.lst [])) (q : Q (.bl true) H) : rEqU K (.ref a) (.ref b) H Q :=
  .inr ⟨.list [], .list [], .lst (sqL ha) .nil, .lst (sqL hb) .nil, rfl, rfl, q⟩
theorem alike_step (T : TxtP P K mg) {k n : Nat} (sp : Sp) (IH : FnOk P w K mg base CX0 k T.a__law_alike T.fd__law_alike ["_law_found", "_law_due_here"] sp)
    (hsp : ∀ (m : Nat), n = m + 1 → ∀ x y H (Q : VK) E, Sm K H m x y → (∀ H', Same H H' → Q (.bl true) H') → sp [x, y] H Q E) : FnOk P w K mg base CX0 (k + 1) T.a__law_alike T.fd__law_alike ["_law_found", "_law_due_here"] (spAlike K n) := by
  refine T.F__law_alike.ok sc__law_alike (fun vs H Q E h => ?_) (fun cdv A outer s H vs Q E hr h => ?_)
  · obtain ⟨x, y, rfl, _⟩ := h
    rfl
  · obtain ⟨x, y, rfl, hS, q⟩ := h
    refine ⟨_, (pss_cons (ps_if (pt_val (pe_callB (r := rIsiT K) call_isiT (by rfl) T.z_isinstance (by decide +kernel) (pa_cons (pv 1) (pa_cons (pe_tup (pa_cons (pe_bltn (v := .ty "tuple") (by rfl) T.z_tuple (by decide +kernel) rfl) (pa_cons (pe_bltn (v := .ty "list") (by rfl) T.z_list (by decide +kernel) rfl) pa_nil))) pa_nil)))) (pss_cons (ps_if (PW.pt (pw_or (pt_not (pt_val (pe_callB (r := rIsiT K) call_isiT (by rfl) T.z_isinstance (by decide +kernel) (pa_cons (pv 0) (pa_cons (pe_tup (pa_cons (pe_bltn (v := .ty "tuple") (by rfl) T.z_tuple (by decide +kernel) rfl) (pa_cons (pe_bltn (v := .ty "list") (by rfl) T.z_list (by decide +kernel) rfl) pa_nil))) pa_nil))))) (pw_or1 (pt_cmpR (r := rNeU K) (op_neU hr.units) (pe_callB (r := rIsi K) call_isi (by rfl) T.z_isinstance (by decide +kernel) (pa_cons (pv 0) (pa_cons (pe_bltn (v := .ty "list") (by rfl) T.z_list (by decide +kernel) rfl) pa_nil))) (pe_callB (r := rIsi K) call_isi (by rfl) T.z_isinstance (by decide +kernel) (pa_cons (pv 1) (pa_cons (pe_bltn (v := .ty "list") (by rfl) T.z_list (by decide +kernel) rfl) pa_nil))) (nomark _))))) (pss_one (ps_ret pe_bl)) pss_nil)
 (pss_cons (ps_if (pt_cmpR (r := rNeU K) (op_neU hr.units) (pe_callB (r := rLenU K) call_lenU (by rfl) T.z_len (by decide +kernel) (pa_cons (pv 0) pa_nil)) (pe_callB (r := rLenU K) call_lenU (by rfl) T.z_len (by decide +kernel) (pa_cons (pv 1) pa_nil)) (nomark _)) (pss_one (ps_ret pe_bl)) pss_nil)
 (pss_one (ps_ret (pe_cmpR (r := rEqU K) (op_eqU hr.units) (pe_lc (own := [("_law_k", 2)]) (g := (gName 2)) rfl sc__law_alike.nd (pi_range1 rfl T.z_range (pa_cons (pe_callB (r := rLenU K) call_lenU (by rfl) T.z_len (by decide +kernel) (pa_cons (pv 1) pa_nil)) pa_nil)) (blkOk_by (N := ["_law_found", "_law_due_here", "_law_k"]) (sc := defScope s__law_alike) (by decide +kernel)) (fun _ _ _ _ _ => (pg_name (i := 2) sc__law_alike.nd rfl (Or.inl rfl))) (fun _ _ _ _ _ => pts_one (pt_not (pt_val (pe_call IH hr (by rfl) T.g__law_alike T.F__law_alike.kp T.b__law_alike .nil pass0 (pa_cons (pe_ix (r := rIx K) ix_seq (pv 0) (pv 2) (fun _ _ => rfl)) (pa_cons (pe_ix (r := rIx K) ix_seq (pv 1) (pv 2) (fun _ _ => rfl)) pa_nil)))))) (fun _ _ _ _ _ => (pv 2))) (pe_lst pa_nil) (nomark _)))))) pss_nil)
 (pss_cons (ps_if (PW.pt (pw_or (pt_cmpR op_isN (pv 1) pe_non (nomark _)) (pw_or1 (pt_val (pe_callB (r := rIsi K) call_isi (by rfl) T.z_isinstance (by decide +kernel) (pa_cons (pv 1) (pa_cons (pe_bltn (v := .ty "str") (by rfl) T.z_str (by decide +kernel) rfl) pa_nil))))))) (pss_one (ps_ret (pe_and (pe_cmpR (r := rEqU K) (op_eqU hr.units) (pv 0) (pv 1) (nomark _)) (pe_one (pe_cmpR (r := rEqU K) (op_eqU hr.units) (pe_callB (r := rIsi K) call_isi (by rfl) T.z_isinstance (by decide +kernel) (pa_cons (pv 0) (pa_cons (pe_bltn (v := .ty "str") (by rfl) T.z_str (by decide +kernel) rfl) pa_nil))) (pe_callB (r := rIsi K) call_isi (by rfl) T.z_isinstance (by decide +kernel) (pa_cons (pv 1) (pa_cons (pe_bltn (v := .ty "str") (by rfl) T.z_str (by decide +kernel) rfl) pa_nil))) (nomark _)))))) pss_nil)
 (pss_one (ps_ret (pe_and (pe_callB (r := rIsi K) call_isi (by rfl) T.z_isinstance (by decide +kernel) (pa_cons (pv 0) (pa_cons (pe_bltn (v := .ty "int") (by rfl) T.z_int (by decide +kernel) rfl) pa_nil))) (pe_and (pe_cmpR (r := rEqU K) (op_eqU hr.units) (pe_callB (r := rIsi K) call_isi (by rfl) T.z_isinstance (by decide +kernel) (pa_cons (pv 0) (pa_cons (pe_bltn (v := .ty "bool") (by rfl) T.z_bool (by decide +kernel) rfl) pa_nil))) (pe_callB (r := rIsi K) call_isi (by rfl) T.z_isinstance (by decide +kernel) (pa_cons (pv 1) (pa_cons (pe_bltn (v := .ty "bool") (by rfl) T.z_bool (by decide +kernel) rfl) pa_nil))) (nomark _)) (pe_one (pe_cmpR (r := rEqU K) (op_eqU hr.units) (pv 0) (pv 1) (nomark _))))))))), ?_⟩
    refine st0 (σ' := [some _, some _, none]) rfl ?_
    cases hS with
    | non =>
      walk_at "go"
      refine al_t (sz1000 (by show 2 ≤ 1000; decide)) fun p1 H1 n1 e1 h1 _ => ?_
      walk_at "go"
      refine isi2 h1 Kd.non.ty kb_nt kb_nl ?_
      walk_at "go"
      refine i_f ?_
      walk_at "go"
      refine ⟨rfl, ?_⟩
      walk_at "go"
      refine i_dT rfl ?_
      walk_at "go"
      refine eq_s rfl ?_
      rw [decide_eq_true rfl]
      walk_at "go"
      refine isi Kd.non.ty kb_ns ?_
      walk_at "go"
      refine isi Kd.non.ty kb_ns ?_
      walk_at "go"
      exact q _ e1
    | bl b =>
      walk_at "go"
      refine al_t (sz1000 (by show 2 ≤ 1000; decide)) fun p1 H1 n1 e1 h1 _ => ?_
      walk_at "go"
      refine isi2 h1 (Kd.ty (.bl b)) kb_bt kb_bl ?_
      walk_at "go"
      refine i_f ?_
      walk_at "go"
      refine ⟨rfl, ?_⟩
      walk_at "go"
      refine i_dF (by intro z; cases z) ?_
      walk_at "go"
      refine isi (Kd.ty (.bl b)) kb_bs ?_
      walk_at "go"
      refine isi (Kd.ty (.bl b)) kb_bi ?_
      walk_at "go"
      refine isi (Kd.ty (.bl b)) kb_bb ?_
      walk_at "go"
      refine isi (Kd.ty (.bl b)) kb_bb ?_
      walk_at "go"
      rw [beq_self_eq_true]
      exact q _ e1
    | int i =>
      walk_at "go"
      refine al_t (sz1000 (by show 2 ≤ 1000; decide)) fun p1 H1 n1 e1 h1 _ => ?_
      walk_at "go"
      refine isi2 h1 (Kd.ty (.int i)) kb_it kb_il ?_
      walk_at "go"
      refine i_f ?_
      walk_at "go"
      refine ⟨rfl, ?_⟩
      walk_at "go"
      refine i_dF (by intro z; cases z) ?_
      walk_at "go"
      refine isi (Kd.ty (.int i)) kb_is ?_
      walk_at "go"
      refine isi (Kd.ty (.int i)) kb_ii ?_
      walk_at "go"
      refine isi (Kd.ty (.int i)) kb_ib ?_
      walk_at "go"
      refine isi (Kd.ty (.int i)) kb_ib ?_
      walk_at "go"
      rw [decide_eq_true rfl]
      exact q _ e1
    | str z =>
      walk_at "go"
      refine al_t (sz1000 (by show 2 ≤ 1000; decide)) fun p1 H1 n1 e1 h1 _ => ?_
      walk_at "go"
      refine isi2 h1 (Kd.ty (.str z)) kb_st kb_sl ?_
      walk_at "go"
      refine i_f ?_
      walk_at "go"
      refine ⟨rfl, ?_⟩
      walk_at "go"
      refine i_dF (by intro z; cases z) ?_
      walk_at "go"
      refine isi (Kd.ty (.str z)) kb_ss ?_
      walk_at "go"
      refine eq_s rfl ?_
      rw [decide_eq_true rfl]
      walk_at "go"
      refine isi (Kd.ty (.str z)) kb_ss ?_
      walk_at "go"
      refine isi (Kd.ty (.str z)) kb_ss ?_
      walk_at "go"
      exact q _ e1
    | @tup m a b xs ys ha hb hl hs hh =>
      walk_at "go"
      refine al_t (sz1000 (by show 2 ≤ 1000; decide)) fun p1 H1 n1 e1 h1 _ => ?_
      walk_at "go"
      refine isi2 h1 (Kd.ty (.tup (e1.t hb))) kb_tt kb_tl ?_
      walk_at "go"
      refine i_t ?_
      walk_at "go"
      refine al_t (sz1000 (by show 2 ≤ 1000; decide)) fun p2 H2 n2 e2 h2 _ => ?_
      have e12 := e1.trans e2
      walk_at "go"
      refine isi2 h2 (Kd.ty (.tup (e12.t ha))) kb_tt kb_tl ?_
      walk_at "go"
      refine i_nt ?_
      walk_at "go"
      refine isi (Kd.ty (.tup (e12.t ha))) kb_tl ?_
      walk_at "go"
      refine isi (Kd.ty (.tup (e12.t hb))) kb_tl ?_
      walk_at "go"
      refine len_t (e12.t ha) ?_
      walk_at "go"
      refine len_t (e12.t hb) ?_
      walk_at "go"
      refine i_nd (fun z => absurd (by rw [hl]) z) (fun _ => ?_)
      walk_at "go"
      refine e_lcR ?_
      walk_at "go"
      refine len_t (e12.t hb) ?_
      walk_at "go"
      refine ⟨_, rfl, by omega, by omega, ?_⟩
      rw [Int.toNat_natCast]
      refine comp_none (K := K) (σw := [some (.ref a), some (.ref b), none]) rfl ?_ ?_
      · intro i H3 R hi s3 hR
        have hx : xs[i]? = some (xs[i]'(by omega)) := List.getElem?_eq_getElem (by omega)
        have hy : ys[i]? = some (ys[i]'(by omega)) := List.getElem?_eq_getElem (by omega)
        have e13 := e12.trans s3
        walk_at "go"
        refine ⟨rfl, ?_⟩
        walk_at "go"
        refine ix_t (e13.t ha) (at_int (by omega) (by rw [show (0 + (i : Int)).toNat = i by omega]; exact hx)) ?_
        walk_at "go"
        refine ix_t (e13.t hb) (at_int (by omega) (by rw [show (0 + (i : Int)).toNat = i by omega]; exact hy)) ?_
        walk_at "go"
        refine hsp m rfl _ _ _ _ _ ((hh i _ _ hx hy).same e13) fun H4 s4 => ?_
        walk_at "go"
        exact hR _ _ s4
      · intro D H3 hD s3 hd
        walk_at "go"
        refine al_l (sz1000 (by show 0 ≤ 1000; decide)) fun p4 H4 n4 e4 h4 _ => ?_
        refine eq_nil (e4 _ _ hd) h4 ?_
        exact q _ ((e12.trans s3).trans e4)
    | @lst m a b xs ys ha hb hl hs hh =>
      walk_at "go"
      refine al_t (sz1000 (by show 2 ≤ 1000; decide)) fun p1 H1 n1 e1 h1 _ => ?_
      walk_at "go"
      refine isi2 h1 (Kd.ty (.lst (e1 _ _ hb))) kb_lt kb_ll ?_
      walk_at "go"
      refine i_t ?_
      walk_at "go"
      refine al_t (sz1000 (by show 2 ≤ 1000; decide)) fun p2 H2 n2 e2 h2 _ => ?_
      have e12 := e1.trans e2
      walk_at "go"
      refine isi2 h2 (Kd.ty (.lst (e12 _ _ ha))) kb_lt kb_ll ?_
      walk_at "go"
      refine i_nt ?_
      walk_at "go"
      refine isi (Kd.ty (.lst (e12 _ _ ha))) kb_ll ?_
      walk_at "go"
      refine isi (Kd.ty (.lst (e12 _ _ hb))) kb_ll ?_
      walk_at "go"
      refine len_l (sqL (e12 _ _ ha)) ?_
      walk_at "go"
      refine len_l (sqL (e12 _ _ hb)) ?_
      walk_at "go"
      refine i_nd (fun z => absurd (by rw [hl]) z) (fun _ => ?_)
      walk_at "go"
      refine e_lcR ?_
      walk_at "go"
      refine len_l (sqL (e12 _ _ hb)) ?_
      walk_at "go"
      refine ⟨_, rfl, by omega, by omega, ?_⟩
      rw [Int.toNat_natCast]
      refine comp_none (K := K) (σw := [some (.ref a), some (.ref b), none]) rfl ?_ ?_
      · intro i H3 R hi s3 hR
        have hx : xs[i]? = some (xs[i]'(by omega)) := List.getElem?_eq_getElem (by omega)
        have hy : ys[i]? = some (ys[i]'(by omega)) := List.getElem?_eq_getElem (by omega)
        have e13 := e12.trans s3
        walk_at "go"
        refine ⟨rfl, ?_⟩
        walk_at "go"
        refine ix_l (sqL (e13 _ _ ha)) (at_int (by omega) (by rw [show (0 + (i : Int)).toNat = i by omega]; exact hx)) ?_
        walk_at "go"
        refine ix_l (sqL (e13 _ _ hb)) (at_int (by omega) (by rw [show (0 + (i : Int)).toNat = i by omega]; exact hy)) ?_
        walk_at "go"
        refine hsp m rfl _ _ _ _ _ ((hh i _ _ hx hy).same e13) fun H4 s4 => ?_
        walk_at "go"
        exact hR _ _ s4
      · intro D H3 hD s3 hd
        walk_at "go"
        refine al_l (sz1000 (by show 0 ≤ 1000; decide)) fun p4 H4 n4 e4 h4 _ => ?_
        refine eq_nil (e4 _ _ hd) h4 ?_
        exact q _ ((e12.trans s3).trans e4)
theorem ok_alike_n (T : TxtP P K mg) : ∀ n : Nat, FnOk P w K mg base CX0 (n + 2) T.a__law_alike T.fd__law_alike ["_law_found", "_law_due_here"] (spAlike K n)
  | 0 => by
    have IH : FnOk P w K mg base CX0 1 T.a__law_alike T.fd__law_alike ["_law_found", "_law_due_here"] spNo :=
      T.F__law_alike.ok sc__law_alike (fun vs H Q E h => False.elim h) (fun cdv A outer s H vs Q E hr h => False.elim h)
    exact alike_step T spNo IH fun m e => nomatch e
  | n + 1 => by
    refine alike_step T (spAlike K n) (ok_alike_n T n) fun m e x y H Q E h q => ?_
    obtain rfl : n = m := Nat.succ.inj e
    exact ⟨x, y, rfl, h, q⟩
theorem ok__law_alike (T : TxtP P K mg) : FnOk P w K mg base CX0 5 T.a__law_alike T.fd__law_alike ["_law_found", "_law_due_here"] (spAlike K 3) := ok_alike_n T 3
/-! ### the law: six drawn texts -/
theorem flat_ints (gs : List Int) : (gs.map V.int).all flatV = true := by
  rw [List.all_map, List.all_eq_true]
  intro _ _
  rfl
def odds : List Str := ["", "0", "7", "8", "00", "-1", "+0", "x", "good", "bad", "Good", "\t", "1.0", "2"]
theorem odds_ok : ∀ w ∈ odds, Ln 4 w := by
  have h : odds.all (fun w => (TL.tl w).all (fun c => decide (c ≠ 10 ∧ c < 256)) && decide (w.length ≤ 4)) = true := by decide +kernel
  intro w hw
  have := List.all_eq_true.mp h w hw
  rw [Bool.and_eq_true, List.all_eq_true] at this
  exact ⟨fun hc => (of_decide_eq_true (this.1 10 hc)).1 rfl, of_decide_eq_true this.2, fun c hc => (of_decide_eq_true (this.1 c hc)).2⟩
theorem mark_ok {w : Str} (h : w = "good" ∨ w = "bad") : Ln 4 w := by
  rcases h with rfl | rfl
  · exact odds_ok _ (by decide +kernel)
  · exact odds_ok _ (by decide +kernel)
def numS (z : Int) : Str := Str.ofString (toString z)
theorem num_ok {z : Int} (h0 : 0 ≤ z) (h8 : z < 8) : Ln 1 (numS z) := by
  obtain ⟨n, rfl⟩ := Int.eq_ofNat_of_zero_le h0
  have e : TL.tl (numS (n : Nat)) = [48 + n] := by
    unfold numS
    rw [TL.tl_num, TL.numL_lt (by omega)]
  refine ⟨fun hc => ?_, ?_, fun c hc => ?_⟩
  · rw [e] at hc
    have := List.mem_singleton.mp hc
    omega
  · rw [TL.len_tl, e]
    exact Nat.le_refl _
  · rw [e] at hc
    have := List.mem_singleton.mp hc
    omega
theorem line_ok {w : Str} {r : List Int} (h : w = "good" ∨ w = "bad") (hl : r.length ≤ 3) (hr : ∀ z ∈ r, 0 ≤ z ∧ z < 8) : Ln 20 (Txt.join (" " : Str) ([w] ++ r.map numS)) := by
  have hw := mark_ok h
  have hsum : ((r.map numS).map (·.length)).sum ≤ r.length := by
    clear hl
    induction r with
    | nil => simp
    | cons z r ih =>
      have h1 := ih fun x hx => hr x (List.mem_cons_of_mem _ hx)
      have h2 := (num_ok (hr z List.mem_cons_self).1 (hr z List.mem_cons_self).2).ln
      simp only [List.map_cons, List.sum_cons, List.length_cons]
      omega
  have hall : ∀ x ∈ [w] ++ r.map numS, Ln 4 x := fun x hx => by
    rcases List.mem_append.mp hx with hx | hx
    · rw [List.mem_singleton.mp hx]
      exact hw
    · obtain ⟨z, hz, rfl⟩ := List.mem_map.mp hx
      exact (num_ok (hr z hz).1 (hr z hz).2).mono (by decide)
  refine Ln.join (fun x hx => (hall x hx).nn) (fun x hx => (hall x hx).sm) ?_
  have := hw.ln
  rw [List.map_append, List.sum_append, List.length_append, List.length_map]
  simp only [List.map_cons, List.map_nil, List.sum_cons, List.sum_nil, List.length_cons, List.length_nil]
  omega
/-! the texts at the end -/
def cases7 : List (List Str) := [[""], ["good"], ["bad 0"], ["bad 1"], ["good 0 0 0 0"], List.replicate 9 "bad 0", ["good 0 0", "bad 0"]]
def dues7 : List (Option (Nat × Nat)) := [some (1, 1), some (1, 2), none, some (1, 2), some (1, 5), some (9, 1), some (2, 3)]
theorem dues_eq : (cases7.map fun ls => flt (ls.map wordsOf)) = dues7 := by decide +kernel
theorem cases_ok : ∀ ls ∈ cases7, ls ≠ [] ∧ ls.length ≤ 900 ∧ ∀ z ∈ ls, Ln 900 z := by
  have h : cases7.all (fun ls => !ls.isEmpty && decide (ls.length ≤ 900) && ls.all fun w => (TL.tl w).all (fun c => decide (c ≠ 10 ∧ c < 256)) && decide (w.length ≤ 900)) = true := by decide +kernel
  intro ls hls
  have := List.all_eq_true.mp h ls hls
  rw [Bool.and_eq_true, Bool.and_eq_true, List.all_eq_true] at this
  refine ⟨fun e => ?_, of_decide_eq_true this.1.2, fun z hz => ?_⟩
  · rw [e] at this
    cases this.1.1
  · have hz' := this.2 z hz
    rw [Bool.and_eq_true, List.all_eq_true] at hz'
    exact ⟨fun hc => (of_decide_eq_true (hz'.1 10 hc)).1 rfl, of_decide_eq_true hz'.2, fun c hc => (of_decide_eq_true (hz'.1 c hc)).2⟩
def texts7 : List V := (cases7.map (Txt.join ("\n" : Str))).map V.str
def ansD : Option (Nat × Nat) → PyData
  | none => .none
  | some (l, w) => .tuple [.int (l : Nat), .int (w : Nat)]
theorem dp_ans {K : PySem.W.Frag} {H : Hp} : ∀ (ys : List V) (rs : List (Option (Nat × Nat))), ys.length = rs.length → (∀ (i : Nat) (v : V) (r : Option (Nat × Nat)), ys[i]? = some v → rs[i]? = some r → AnsAt H v r) → DpAll K H ys (rs.map ansD)
  | [], [], _, _ => .nil
  | [], _ :: _, h, _ => by cases h
  | _ :: _, [], h, _ => by cases h
  | y :: ys, r :: rs, h, hh => by
    refine .cons ?_ (dp_ans ys rs (Nat.succ.inj h) fun i v r h1 h2 => hh (i + 1) v r h1 h2)
    have h0 := hh 0 y r rfl rfl
    cases r with
    | none =>
      rw [show y = .non from h0]
      exact .non
    | some lw =>
      obtain ⟨l, w⟩ := lw
      obtain ⟨p, rfl, hp⟩ := h0
      exact .tup (sqT hp) (.cons (.int _) (.cons (.int _) .nil))
theorem ans_same {H H' : Hp} {x : V} {r : Option (Nat × Nat)} (h : AnsAt H x r) (s : Same H H') : AnsAt H' x r := by
  cases r with
  | none => exact h
  | some lw =>
    obtain ⟨p, e, hp⟩ := h
    exact ⟨p, e, s _ _ hp⟩
theorem ans_sm {K : PySem.W.Frag} {H : Hp} {x y : V} {r : Option (Nat × Nat)} {n : Nat} (hx : AnsAt H x r) (hy : AnsAt H y r) : Sm K H (n + 1) x y := by
  cases r with
  | none =>
    rw [show x = .non from hx, show y = .non from hy]
    exact .non
  | some lw =>
    obtain ⟨p, rfl, hp⟩ := hx
    obtain ⟨p', rfl, hp'⟩ := hy
    refine .tup (sqT hp) (sqT hp') rfl (by show 2 ≤ 1000; decide) fun i u v h1 h2 => ?_
    match i with
    | 0 =>
      cases h1
      cases h2
      exact .int _
    | 1 =>
      cases h1
      cases h2
      exact .int _
    | i + 2 =>
      have := (List.getElem?_eq_some_iff.mp h1).1
      simp only [List.length_cons, List.length_nil] at this
      omega
def spLaw (K : PySem.W.Frag) : Sp := fun vs H Q _ => ∃ (a : Addr) (ns : List Int), vs = [.ref a] ∧ SqL K H a (ns.map V.int) ∧ ns.length ≤ 63 ∧ ∀ H', Q (.bl true) H'
theorem four {i : Nat} {x : V} (h : [V.int 0, V.int 1, V.int 1, V.int 2][i]? = some x) : ∃ n : Nat, x = V.int (n : Nat) ∧ n ≤ 2 := by
  have hm := List.mem_of_getElem? h
  simp only [List.mem_cons, List.not_mem_nil, or_false] at hm
  rcases hm with e | e | e | e
  · exact ⟨0, e, by decide⟩
  · exact ⟨1, e, by decide⟩
  · exact ⟨1, e, by decide⟩
  · exact ⟨2, e, by decide⟩
theorem ok_law (T : TxtP P K mg) : FnOk P w K mg base CX0 9 T.a_law T.fd_law ["_law_script"] (spLaw K) := by
  refine T.F_law.ok sc_law (fun vs H Q E h => ?_) (fun cdv A outer s H vs Q E hr h => ?_)
  · obtain ⟨a, ns, rfl, _⟩ := h
    rfl
  · obtain ⟨a, ns, rfl, hS, hlen, q⟩ := h
    refine ⟨_, (pss_cons (ps_set (i := 1) sc_law.nd rfl (Or.inl rfl) (pe_call (ok__law_mix T) (hr.mono (by decide)) (by rfl) T.g__law_mix T.F__law_mix.kp T.b__law_mix .nil pass0 (pa_cons (pv 0) (pa_cons pe_int pa_nil))))
 (pss_cons (ps_set (i := 2) sc_law.nd rfl (Or.inl rfl) (pe_lst (pa_cons pe_str (pa_cons pe_str (pa_cons pe_str (pa_cons pe_str (pa_cons pe_str (pa_cons pe_str (pa_cons pe_str (pa_cons pe_str (pa_cons pe_str (pa_cons pe_str (pa_cons pe_str (pa_cons pe_str (pa_cons pe_str (pa_cons pe_str pa_nil))))))))))))))))
 (pss_cons (ps_for PassesOwn.never rfl (pi_range1 rfl T.z_range (pa_cons pe_int pa_nil)) (pg_name (i := 3) sc_law.nd rfl (Or.inl rfl))
 (pss_cons (ps_asg (pe_call (ok__law_parts T) (hr.mono (by decide)) (by rfl) T.g__law_parts T.F__law_parts.kp T.b__law_parts .nil pass0 (pa_cons (pv 1) (pa_cons (pe_op (r := rAddU K) op_addU pe_int (pe_call (ok__law_next T) (hr.mono (by decide)) (by rfl) T.g__law_next T.F__law_next.kp T.b__law_next .nil pass0 (pa_cons (pv 1) (pa_cons pe_int pa_nil)))) pa_nil))) (pg_tup rfl (pgs_cons (pg_name (i := 4) sc_law.nd rfl (Or.inl rfl)) (pgs_cons (pg_name (i := 5) sc_law.nd rfl (Or.inl rfl)) pgs_nil))))
 (pss_cons (ps_set (i := 6) sc_law.nd rfl (Or.inl rfl) (pe_lst pa_nil))
 (pss_cons (ps_for PassesOwn.never rfl (pi_range1 rfl T.z_range (pa_cons (pe_callB (r := rLenU K) call_lenU (by rfl) T.z_len (by decide +kernel) (pa_cons (pv 4) pa_nil)) pa_nil)) (pg_name (i := 7) sc_law.nd rfl (Or.inl rfl))
 (pss_one (ps_expr (pe_bm PySem.F.plainAttrs_list PySem.F.slot_list_append PySem.F.type_list_append mt_append (pv 6) (pa_cons (pe_join pe_str (pe_op (r := rAddU K) op_addU (pe_lst (pa_cons (pe_ifExp (pt_cmpR (r := rIn K false) op_in_seq (pv 7) (pv 5) (by rfl)) pe_str pe_str) pa_nil)) (pe_lc (own := [("_law_goal", 11)]) (g := (gName 11)) (tt := tYes) rfl sc_law.nd (pi_seq (pe_ix (r := rIx K) ix_seq (pv 4) (pv 7) (fun _ _ => rfl))) (blkOk_by (N := ["_law_script", "_law_h", "_law_odd", "_law_turn", "_law_steps", "_law_good", "_law_lines", "_law_k", "_law_change", "_law_some", "_law_due_here", "_law_goal", "_law_text"]) (sc := defScope s_law) (by decide +kernel)) (fun _ _ _ _ _ => (pg_name (i := 11) sc_law.nd rfl (Or.inl rfl))) (fun _ _ _ _ _ => pts_nil) (fun _ _ _ _ _ => (pe_callTy call_str_int (by rfl) T.z_str (by decide +kernel) (pa_cons (pv 11) pa_nil)))))) pa_nil)))))
 (pss_cons (ps_for PassesOwn.never rfl (pi_range1 rfl T.z_range (pa_cons (pe_call (ok__law_pick T) (hr.mono (by decide)) (by rfl) T.g__law_pick T.F__law_pick.kp T.b__law_pick .nil pass0 (pa_cons (pv 1) (pa_cons (pe_lst (pa_cons pe_int (pa_cons pe_int (pa_cons pe_int (pa_cons pe_int pa_nil))))) pa_nil))) pa_nil)) (pg_name (i := 8) sc_law.nd rfl (Or.inl rfl))
 (pss_one (ps_set (i := 6) sc_law.nd rfl (Or.inl rfl) (pe_call (ok__law_changed T) (hr.mono (by decide)) (by rfl) T.g__law_changed T.F__law_changed.kp T.b__law_changed .nil pass0 (pa_cons (pv 1) (pa_cons (pv 6) (pa_cons (pv 2) pa_nil)))))))
 (pss_one (ps_if (pt_not (pt_val (pe_call (ok__law_alike T) (hr.mono (by decide)) (by rfl) T.g__law_alike T.F__law_alike.kp T.b__law_alike .nil pass0 (pa_cons (pe_call (ok__law_answer T) (hr.mono (by decide)) (by rfl) T.g__law_answer T.F__law_answer.kp T.b__law_answer .nil pass0 (pa_cons (pe_join pe_str (pv 6)) pa_nil)) (pa_cons (pe_call (ok__law_due T) (hr.mono (by decide)) (by rfl) T.g__law_due T.F__law_due.kp T.b__law_due .nil pass0 (pa_cons (pv 6) pa_nil)) pa_nil))))) (pss_one (ps_ret pe_bl)) pss_nil)))))))
 (pss_cons (ps_set (i := 9) sc_law.nd rfl (Or.inl rfl) (pe_lst (pa_cons pe_str (pa_cons pe_str (pa_cons pe_str (pa_cons pe_str (pa_cons pe_str (pa_cons (pe_join pe_str (pe_op op_mulU (pe_lst (pa_cons pe_str pa_nil)) pe_int)) (pa_cons pe_str pa_nil)))))))))
 (pss_cons (ps_set (i := 10) sc_law.nd rfl (Or.inl rfl) (pe_lst (pa_cons (pe_tup (pa_cons pe_int (pa_cons pe_int pa_nil))) (pa_cons (pe_tup (pa_cons pe_int (pa_cons pe_int pa_nil))) (pa_cons pe_non (pa_cons (pe_tup (pa_cons pe_int (pa_cons pe_int pa_nil))) (pa_cons (pe_tup (pa_cons pe_int (pa_cons pe_int pa_nil))) (pa_cons (pe_tup (pa_cons pe_int (pa_cons pe_int pa_nil))) (pa_cons (pe_tup (pa_cons pe_int (pa_cons pe_int pa_nil))) pa_nil)))))))))
 (pss_one (ps_ret (pe_cmpR (r := rEqU K) (op_eqU hr.units) (pe_lc (own := [("_law_text", 12)]) (g := (gName 12)) (tt := tYes) rfl sc_law.nd (pi_seq (pv 9)) (blkOk_by (N := ["_law_script", "_law_h", "_law_odd", "_law_turn", "_law_steps", "_law_good", "_law_lines", "_law_k", "_law_change", "_law_some", "_law_due_here", "_law_goal", "_law_text"]) (sc := defScope s_law) (by decide +kernel)) (fun _ _ _ _ _ => (pg_name (i := 12) sc_law.nd rfl (Or.inl rfl))) (fun _ _ _ _ _ => pts_nil) (fun _ _ _ _ _ => (pe_call (ok__law_answer T) (hr.mono (by decide)) (by rfl) T.g__law_answer T.F__law_answer.kp T.b__law_answer .nil pass0 (pa_cons (pv 12) pa_nil)))) (pv 10) (nomark _))))))))), ?_⟩
    refine st0 (σ' := [some _, none, none, none, none, none, none, none, none, none, none, none, none]) rfl ?_
    walk_at "go"
    refine ⟨a, ns, 14, rfl, hS, hlen, by decide, by decide, fun h pc H1 e1 n1 n2 D1 => ?_⟩
    walk_at "go"
    refine al_l (sz1000 (by show 14 ≤ 1000; decide)) fun o H2 n2 e2 ho _ => ?_
    replace ho : H2 o = some (.lst (odds.map V.str)) := ho
    have no := D1.not n2
    have D2 := D1.same e2
    walk_at "go"
    refine f_forR ?_
    walk_at "go"
    refine ⟨6, rfl, by decide, by decide, for_range (fun i σ H3 => ∃ y3 y4 y5 y6 y7 y8 y9 y10, σ = [some (.ref a), some (.ref h), some (.ref o), y3, y4, y5, y6, y7, y8, y9, y10, none, none] ∧ Dr H3 h pc ∧ H3 o = some (.lst (odds.map V.str))) ⟨_, _, _, _, _, _, _, _, rfl, D2, ho⟩ (fun i σ H3 hi hp => ?_) (fun σ H3 hp => ?_)⟩
    · obtain ⟨y3, y4, y5, y6, y7, y8, y9, y10, rfl, D3, ho3⟩ := hp
      clear hS hlen e1 n1 D1 hi e2 n2 D2 ho
      walk_at "go"
      refine ⟨h, pc, 3, rfl, D3, by decide, by decide, fun l H4 l0 l1 d4 => ?_⟩
      walk_at "go"
      obtain ⟨L, hL⟩ : ∃ L : Nat, 1 + l = L := ⟨(1 + l).toNat, by omega⟩
      rw [hL]
      refine ⟨h, pc, L, rfl, d4.dr, by omega, by omega, fun p v vg rows gs H5 d5 hp hv hg hok => ?_⟩
      refine g_pair hp (σ' := [some (.ref a), some (.ref h), some (.ref o), some (.int (0 + (i : Nat))), some v, some vg, y6, y7, y8, y9, y10, none, none]) rfl ?_
      have d35 := d4.trans d5
      have ho5 := d35.get ho3 no
      have D5 := d5.dr
      obtain ⟨sa, sx, rfl, hsx, hsl, hsp⟩ := id hv
      obtain ⟨ga, rfl, hga⟩ := id hg
      clear hp hv hg d4 d5 d35 ho3 D3 l0 l1 hL
      walk_at "go"
      refine al_l (sz1000 (by show 0 ≤ 1000; decide)) fun ll H6 n6 s6 h6 _ => ?_
      have nl6 := D5.not n6
      have D6 := D5.same s6
      have ho6 := s6 _ _ ho5
      walk_at "go"
      refine f_forR ?_
      walk_at "go"
      refine len_t (s6.t hsx) ?_
      walk_at "go"
      have h8 := hok.n8
      refine ⟨_, rfl, by omega, by omega, ?_⟩
      rw [Int.toNat_natCast]
      refine for_range (fun k σ H7 => ∃ y7 ls, σ = [some (.ref a), some (.ref h), some (.ref o), some (.int (0 + (i : Nat))), some (.ref sa), some (.ref ga), some (.ref ll), y7, y8, y9, y10, none, none] ∧ But [ll] H6 H7 ∧ H7 ll = some (.lst (ls.map V.str)) ∧ ls.length = k ∧ ∀ z ∈ ls, Ln 20 z)
        ⟨_, [], rfl, fun _ _ e _ => e, h6, rfl, fun z hz => by cases hz⟩ (fun k σ H7 hk hp => ?_) (fun σ H7 hp => ?_)
      · obtain ⟨y7, ls, rfl, b7, hl7, hll, hLn⟩ := hp
        have nl : NL H6 H7 := b7.nl fun b hb => by
          rw [List.mem_singleton.mp hb]
          exact ⟨_, h6⟩
        rw [Int.zero_add]
        walk_at "go"
        refine ⟨ty_l rfl hl7, ?_⟩
        refine e_m1 ?_
        walk_at "go"
        refine ⟨⟨_, rfl⟩, ?_⟩
        walk_at "go"
        refine ⟨ga, _, rfl, .inr (nl.t (s6.t hga)), rfl, flat_ints gs, ?_⟩
        refine ⟨_, rfl, ?_⟩
        have hkr : k < rows.length := by omega
        have hr0 : rows[k]? = some rows[k] := List.getElem?_eq_getElem hkr
        have hx0 : sx[k]? = some (sx[k]'(by omega)) := List.getElem?_eq_getElem (by omega)
        obtain ⟨b, hb, hbt⟩ := hsp k _ _ hx0 hr0
        rw [hb] at hx0
        obtain ⟨hrl, hrz⟩ := hok.row _ (List.mem_of_getElem? hr0)
        generalize rows[k] = r at hbt hrl hrz
        have hl3 := hok.l3
        refine i_b (fun _ => ?_) (fun _ => ?_)
        all_goals
          walk_at "go"
          refine al_l (sz1000 (by show 1 ≤ 1000; decide)) fun p8 H8 n8 s8 h8 _ => ?_
          walk_at "go"
          refine e_lcT ?_
          walk_at "go"
          refine ix_t (s8.t (nl.t (s6.t hsx))) (atI_nat hx0) ?_
          refine ⟨b, rfl, ⟨_, s8.t (nl.t (s6.t hbt))⟩, ?_⟩
          refine comp_p (walk_tup (K := K) (xs := r.map V.int)) (σw := [some (.ref a), some (.ref h), some (.ref o), some (.int (0 + (i : Nat))), some (.ref sa), some (.ref ga), some (.ref ll), some (.int (k : Nat)), y8, y9, y10, none, none]) ((r.map numS).map V.str) (by simp) rfl (by rw [List.length_map]; omega) (fun H' s => s.t (s8.t (nl.t (s6.t hbt)))) (fun j x y H9 H10 R hj hyj s9 hy kk => ?_) fun D9 H9 hD9 s9 hd9 => ?_
          · obtain ⟨rfl, hxj⟩ := hy
            rw [List.length_map] at hj
            have hrj : r[j]? = some r[j] := List.getElem?_eq_getElem hj
            rw [List.getElem?_map, hrj] at hxj
            cases hxj
            rw [List.getElem?_map, List.getElem?_map, hrj] at hyj
            cases hyj
            have hz := hrz _ (List.mem_of_getElem? hrj)
            walk_at "go"
            refine ⟨rfl, ?_⟩
            walk_at "go"
            refine ⟨_, rfl, ?_, kk _ (Same.refl _)⟩
            obtain ⟨n, hn⟩ := Int.eq_ofNat_of_zero_le hz.1
            rw [hn]
            exact log_small (by omega)
          · walk_at "go"
            refine add_l (s9 _ _ h8) hd9 (by simp; omega) fun p10 H10 n10 s10 h10 => ?_
            rw [show ∀ w : Str, [V.str w] ++ (r.map numS).map V.str = ([w] ++ r.map numS).map V.str from fun w => rfl] at h10
            have hsz : ∀ w : Str, Ln 4 w → (([w] ++ r.map numS).map (·.length)).sum + ([w] ++ r.map numS).length * (" " : Str).length ≤ 16777216 := fun w hw => by
              have h1 := hw.ln
              have e : (" " : Str).length = 1 := by decide +kernel
              have hsum : ((r.map numS).map (·.length)).sum ≤ r.length * 1 := by
                have := lines_len (M := 1) (ls := r.map numS) fun z hz => by
                  obtain ⟨y, hy, rfl⟩ := List.mem_map.mp hz
                  exact num_ok (hrz y hy).1 (by have := (hrz y hy).2; omega)
                rw [List.length_map] at this
                exact this
              rw [e, List.map_append, List.sum_append, List.length_append, List.length_map]
              simp only [List.map_cons, List.map_nil, List.sum_cons, List.sum_nil, List.length_cons, List.length_nil]
              omega
            refine ⟨_, p10, _, rfl, rfl, .inl (sqL h10), hsz _ (mark_ok (by first | exact .inl rfl | exact .inr rfl)), ?_⟩
            walk_at "go"
            have hl10 : H10 ll = some (.lst (ls.map V.str)) := s10 _ _ (s9 _ _ (s8 _ _ hl7))
            refine app_l hl10 (by rw [List.length_map]; omega) ?_
            walk_at "go"
            refine ⟨_, ls ++ [_], rfl, ?_, by rw [upd_same, List.map_append]; rfl, by rw [List.length_append, hll]; rfl, fun z hz => ?_⟩
            · intro c ob hc nc
              rw [upd_ne fun e => nc (List.mem_singleton.mpr e)]
              exact s10 _ _ (s9 _ _ (s8 _ _ (b7 c ob hc nc)))
            · rcases List.mem_append.mp hz with hz | hz
              · exact hLn z hz
              · rw [List.mem_singleton.mp hz]
                exact line_ok (by first | exact .inl rfl | exact .inr rfl) (by omega) fun z hz => by have := hrz z hz; omega
      · obtain ⟨y7, ls, rfl, b7, hl7, hll, hLn⟩ := hp
        have oll : o ≠ ll := fun e => by
          rw [e, n6] at ho5
          cases ho5
        have ho7 := b7 o _ ho6 fun m => oll (List.mem_singleton.mp m)
        have D7 : Dr H7 h pc := by
          obtain ⟨st, ix, cs, c1, c2, rest⟩ := D6.ex
          refine ⟨st, ix, cs, b7 _ _ c1 fun m => nl6 ?_, b7 _ _ c2 fun m => nl6 ?_, rest⟩
          · rw [← List.mem_singleton.mp m]
            exact List.mem_cons_self
          · rw [← List.mem_singleton.mp m]
            exact List.mem_cons_of_mem _ List.mem_cons_self
        clear b7 ho6 D6 s6 h6 n6 hsx hsp hga ho5 D5
        walk_at "go"
        refine f_forR ?_
        walk_at "go"
        refine al_l (sz1000 (by show 4 ≤ 1000; decide)) fun pt H8 n8 s8 h8 _ => ?_
        have D8 := D7.same s8
        walk_at "go"
        refine ⟨h, pc, pt, _, rfl, D8, by show 0 < 4; decide, by show 4 ≤ 1000; decide, .inr ⟨h8, D7.not n8⟩, fun c x H9 hxc d9 => ?_⟩
        obtain ⟨m, rfl, hm⟩ := four hxc
        walk_at "go"
        refine ⟨_, rfl, by omega, by omega, ?_⟩
        rw [Int.toNat_natCast]
        have hl9 := d9.get (s8 _ _ hl7) nl6
        have ho9 := d9.get (s8 _ _ ho7) no
        have hlpos : 0 < ls.length := by have := hok.n1; omega
        refine for_range (fun k σ H10 => ∃ y8 lp ls, σ = [some (.ref a), some (.ref h), some (.ref o), some (.int (0 + (i : Nat))), some (.ref sa), some (.ref ga), some (.ref lp), y7, y8, y9, y10, none, none] ∧ Dr H10 h pc ∧ H10 o = some (.lst (odds.map V.str)) ∧ H10 lp = some (.lst (ls.map V.str)) ∧ lp ∉ [h, pc] ∧ ls ≠ [] ∧ ls.length ≤ 8 + 8 * k ∧ ∀ z ∈ ls, Ln (20 + 5 * k) z)
          ⟨_, ll, ls, rfl, d9.dr, ho9, hl9, nl6, List.length_pos_iff.mp hlpos, by omega, hLn⟩ (fun k σ H10 hk hp => ?_) (fun σ H10 hp => ?_)
        · obtain ⟨y8, lp, ls, rfl, D10, ho10, hl10, nlp, hne, hl100, hL10⟩ := hp
          walk_at "go"
          refine ⟨h, pc, lp, o, 20 + 5 * k, ls, odds, rfl, D10, hl10, nlp, ho10, no, hne, by omega, by omega, hL10, by decide +kernel, by decide +kernel, odds_ok, fun p ls2 H11 d11 hp11 np11 hne2 hl2 hL2 => ?_⟩
          walk_at "go"
          exact ⟨_, p, ls2, rfl, d11.dr, d11.get ho10 no, hp11, np11, hne2, by omega, hL2⟩
        · obtain ⟨y8, lp, ls, rfl, D10, ho10, hl10, nlp, hne, hl100, hL10⟩ := hp
          have hL9 : ∀ z ∈ ls, Ln 900 z := fun z hz => (hL10 z hz).mono (by omega)
          walk_at "go"
          refine e_m1 ?_
          walk_at "go"
          refine ⟨⟨_, rfl⟩, ?_⟩
          walk_at "go"
          refine ⟨_, lp, ls, rfl, rfl, .inl (sqL hl10), ?_, ?_⟩
          · have h1 := lines_len hL9
            have e : ("\n" : Str).length = 1 := by decide +kernel
            rw [e]
            omega
          · walk_at "go"
            refine ⟨ls, rfl, hne, by omega, hL9, fun x H11 s11 hx11 => ?_⟩
            walk_at "go"
            refine ⟨lp, ls, rfl, s11 _ _ hl10, hne, by omega, hL9, fun y H12 s12 hy12 => ?_⟩
            walk_at "go"
            refine ⟨x, y, rfl, ans_sm (ans_same hx11 s12) hy12, fun H13 s13 => ?_⟩
            walk_at "go"
            have sA := s11.trans (s12.trans s13)
            exact ⟨_, _, _, _, _, _, _, _, rfl, D10.same sA, sA _ _ ho10⟩
    · obtain ⟨y3, y4, y5, y6, y7, y8, y9, y10, rfl, D3, ho3⟩ := hp
      clear hS hlen e1 n1 D1 e2 n2 D2 ho D3 ho3
      walk_at "go"
      refine e_m1 ?_
      walk_at "go"
      refine ⟨⟨_, rfl⟩, ?_⟩
      walk_at "go"
      refine al_l (sz1000 (by show 1 ≤ 1000; decide)) fun p4 H4 n4 s4 h4 _ => ?_
      walk_at "go"
      refine .inr ⟨p4, _, _, rfl, rfl, h4, by decide, by decide, by decide, fun p5 n5 => ?_⟩
      obtain ⟨s5, h5⟩ := new_same n5 rfl
      generalize (upd H4 p5 _) = H5 at s5 h5 ⊢
      replace h5 : H5 p5 = some (.lst ((List.replicate 9 ("bad 0" : Str)).map V.str)) := h5
      refine ⟨_, p5, _, rfl, rfl, .inl (sqL h5), by decide +kernel, ?_⟩
      walk_at "go"
      refine al_l (sz1000 (by show 7 ≤ 1000; decide)) fun p6 H6 n6 s6 h6 _ => ?_
      have e7 : texts7 = [V.str ("" : Str), V.str ("good" : Str), V.str ("bad 0" : Str), V.str ("bad 1" : Str), V.str ("good 0 0 0 0" : Str), V.str (Txt.join ("\n" : Str) (List.replicate 9 ("bad 0" : Str))), V.str ("good 0 0\nbad 0" : Str)] := by decide +kernel
      replace h6 : H6 p6 = some (.lst texts7) := by rw [e7]; exact h6
      walk_at "go"
      refine al_t (sz1000 (by show 2 ≤ 1000; decide)) fun t1 H7 m1 f1 g1 _ => ?_
      walk_at "go"
      refine al_t (sz1000 (by show 2 ≤ 1000; decide)) fun t2 H8 m2 f2 g2 _ => ?_
      walk_at "go"
      refine al_t (sz1000 (by show 2 ≤ 1000; decide)) fun t3 H9 m3 f3 g3 _ => ?_
      walk_at "go"
      refine al_t (sz1000 (by show 2 ≤ 1000; decide)) fun t4 H10 m4 f4 g4 _ => ?_
      walk_at "go"
      refine al_t (sz1000 (by show 2 ≤ 1000; decide)) fun t5 H11 m5 f5 g5 _ => ?_
      walk_at "go"
      refine al_t (sz1000 (by show 2 ≤ 1000; decide)) fun t6 H12 m6 f6 g6 _ => ?_
      walk_at "go"
      refine al_l (sz1000 (by show 7 ≤ 1000; decide)) fun p7 H13 m7 f7 g7 _ => ?_
      have hdue : ∀ (j : Nat) (v : V) (r : Option (Nat × Nat)), [V.ref t1, .ref t2, .non, .ref t3, .ref t4, .ref t5, .ref t6][j]? = some v → dues7[j]? = some r → AnsAt H13 v r := by
        intro j v r hv hr
        match j with
        | 0 => cases hv; cases hr; exact ⟨t1, rfl, f7 _ _ (f6 _ _ (f5 _ _ (f4 _ _ (f3 _ _ (f2 _ _ g1)))))⟩
        | 1 => cases hv; cases hr; exact ⟨t2, rfl, f7 _ _ (f6 _ _ (f5 _ _ (f4 _ _ (f3 _ _ g2))))⟩
        | 2 => cases hv; cases hr; exact rfl
        | 3 => cases hv; cases hr; exact ⟨t3, rfl, f7 _ _ (f6 _ _ (f5 _ _ (f4 _ _ g3)))⟩
        | 4 => cases hv; cases hr; exact ⟨t4, rfl, f7 _ _ (f6 _ _ (f5 _ _ g4))⟩
        | 5 => cases hv; cases hr; exact ⟨t5, rfl, f7 _ _ (f6 _ _ g5)⟩
        | 6 => cases hv; cases hr; exact ⟨t6, rfl, f7 _ _ g6⟩
        | j + 7 =>
          have := (List.getElem?_eq_some_iff.mp hv).1
          simp only [List.length_cons, List.length_nil] at this
          omega
      have h13 : H13 p6 = some (.lst texts7) := f7 _ _ (f6 _ _ (f5 _ _ (f4 _ _ (f3 _ _ (f2 _ _ (f1 _ _ h6))))))
      walk_at "go"
      refine e_lcL ?_
      walk_at "go"
      refine ⟨p6, rfl, ⟨_, sqL h13⟩, ?_⟩
      refine comp_d (walk_list (K := K) (xs := texts7)) (fun D i v H => ∃ r, dues7[i]? = some r ∧ AnsAt H v r ∧ v ≠ .ref D)
        (σw := [some (.ref a), some (.ref h), some (.ref o), y3, y4, y5, y6, y7, y8, some (.ref p6), some (.ref p7), none, none]) (fun D i v H H' s hh => ?_) rfl (by decide +kernel) (fun H' s => sqL (s _ _ h13)) (fun D i x H14 H15 R hi hD s14 hy k => ?_) (fun i H x H' hh => by obtain ⟨rfl, _⟩ := hh; exact Same.refl _) fun D H14 ys hD s14 hd hyl hyp => ?_
      · obtain ⟨r, e1, e2, e3⟩ := hh
        refine ⟨r, e1, ?_, e3⟩
        cases r with
        | none => exact e2
        | some lw =>
          obtain ⟨pp, rfl, hpp⟩ := e2
          exact ⟨pp, rfl, s _ _ hpp fun mm => e3 (by rw [List.mem_singleton.mp mm])⟩
      · obtain ⟨rfl, hxi⟩ := hy
        unfold texts7 at hxi
        rw [List.getElem?_map, List.getElem?_map] at hxi
        have hi7 : i < cases7.length := hi
        have hc : cases7[i]? = some cases7[i] := List.getElem?_eq_getElem hi7
        rw [hc] at hxi
        cases hxi
        obtain ⟨c1, c2, c3⟩ := cases_ok _ (List.mem_of_getElem? hc)
        have hdu : dues7[i]? = some (flt ((cases7[i]).map wordsOf)) := by
          rw [← dues_eq, List.getElem?_map, hc]
          rfl
        walk_at "go"
        refine ⟨rfl, ?_⟩
        walk_at "go"
        refine ⟨_, rfl, c1, c2, c3, fun x H16 s16 hx16 => ?_⟩
        refine k x H16 s16 ⟨_, hdu, hx16, fun e => ?_⟩
        obtain ⟨acc, hacc⟩ := hD
        have hacc' := s16 _ _ hacc
        cases hfl : flt ((cases7[i]).map wordsOf) with
        | none =>
          rw [hfl] at hx16
          rw [show x = .non from hx16] at e
          cases e
        | some lw =>
          rw [hfl] at hx16
          obtain ⟨pp, ep, hpp⟩ := hx16
          rw [ep] at e
          cases e
          rw [hpp] at hacc'
          cases hacc'
      · walk_at "go"
        have hdf := dp_ans (K := K) (H := H14) ys dues7 hyl fun j v r h1 h2 => by
          obtain ⟨r', e1, e2, _⟩ := hyp j v h1
          rw [e1] at h2
          cases h2
          exact e2
        have hdd := dp_ans (K := K) (H := H14) [V.ref t1, .ref t2, .non, .ref t3, .ref t4, .ref t5, .ref t6] dues7 rfl fun j v r h1 h2 => ans_same (hdue j v r h1 h2) s14
        refine .inr ⟨.list (dues7.map ansD), .list (dues7.map ansD), .lst (sqL hd) hdf, .lst (sqL (s14 _ _ g7)) hdd, by decide +kernel, by decide +kernel, ?_⟩
        rw [show PyData.eqv (.list (dues7.map ansD)) (.list (dues7.map ansD)) = true by decide +kernel]
        exact q _
end
theorem all_mk {l : PySem.W.OpenLaw} {w : World} {K : PySem.W.Frag} {h : Heap} {mg : Str → Option Value} {fa : Addr} (X : K.In h) (G : h.Ns mainGlobals mg) (hfa : mg "law" = some (.ref fa))
    {t_MOST_STANDS : Tok}
    {t_MOST_LETTERS : Tok}
    {t_GOOD : Tok}
    {t_BAD : Tok}
    {C_MachineError : Addr}
    {C_InvalidText : Addr}
    {xnm_InvalidText xq_InvalidText : Str} {xN_InvalidText : Addr} {xbs_InvalidText xbm_InvalidText : List Value} {xsn_InvalidText : List Str} {xsub_InvalidText : List Value} {xab_InvalidText : Bool} {xcol_InvalidText : Option Bool} {xdd_InvalidText : Option Addr} {xm0_InvalidText xm1_InvalidText xm2_InvalidText xm3_InvalidText xm5_InvalidText : Option Value}
    {C_Machine : Addr}
    {a_InvalidText_init cda_InvalidText_init cc_InvalidText_init : Addr} {od_InvalidText_init an_InvalidText_init : Option Addr} {sl_InvalidText_init : Array (Option Value)} {oc_InvalidText_init kV_InvalidText_init dc_InvalidText_init pm_InvalidText_init ct_InvalidText_init : Value}
    {ccl_InvalidText_init : Value} {cdd_InvalidText_init : Option Addr} {vs0_InvalidText_init : Array Value} {ccs_InvalidText_init : Array (Option Value)} {file_InvalidText_init : Str} {tf_InvalidText_init : Tok} {cl_InvalidText_init : Value} {cld_InvalidText_init : Option Addr} {csl_InvalidText_init : Array (Option Value)} {cdD_InvalidText_init : ClassData}
    {a_is_below : Addr} {od_is_below an_is_below : Option Addr} {sl_is_below : Array (Option Value)} {oc_is_below kV_is_below dc_is_below pm_is_below cd_is_below ct_is_below : Value}
    {a_are_below : Addr} {od_are_below an_are_below : Option Addr} {sl_are_below : Array (Option Value)} {oc_are_below kV_are_below dc_are_below pm_are_below cd_are_below ct_are_below : Value}
    {a_Machine_init : Addr} {od_Machine_init an_Machine_init : Option Addr} {sl_Machine_init : Array (Option Value)} {oc_Machine_init kV_Machine_init dc_Machine_init pm_Machine_init cd_Machine_init ct_Machine_init : Value}
    {a_check_steps : Addr} {od_check_steps an_check_steps : Option Addr} {sl_check_steps : Array (Option Value)} {oc_check_steps kV_check_steps dc_check_steps pm_check_steps cd_check_steps ct_check_steps : Value}
    {a_are_leads : Addr} {od_are_leads an_are_leads : Option Addr} {sl_are_leads : Array (Option Value)} {oc_are_leads kV_are_leads dc_are_leads pm_are_leads cd_are_leads ct_are_leads : Value}
    {a_check_good : Addr} {od_check_good an_check_good : Option Addr} {sl_check_good : Array (Option Value)} {oc_check_good kV_check_good dc_check_good pm_check_good cd_check_good ct_check_good : Value}
    {a_read : Addr} {od_read an_read : Option Addr} {sl_read : Array (Option Value)} {oc_read kV_read dc_read pm_read cd_read ct_read : Value}
    {a_words_of : Addr} {od_words_of an_words_of : Option Addr} {sl_words_of : Array (Option Value)} {oc_words_of kV_words_of dc_words_of pm_words_of cd_words_of ct_words_of : Value}
    {a_check_words : Addr} {od_check_words an_check_words : Option Addr} {sl_check_words : Array (Option Value)} {oc_check_words kV_check_words dc_check_words pm_check_words cd_check_words ct_check_words : Value}
    {a_words_at : Addr} {od_words_at an_words_at : Option Addr} {sl_words_at : Array (Option Value)} {oc_words_at kV_words_at dc_words_at pm_words_at cd_words_at ct_words_at : Value}
    {a__law_mix : Addr} {od__law_mix an__law_mix : Option Addr} {sl__law_mix : Array (Option Value)} {oc__law_mix kV__law_mix dc__law_mix pm__law_mix cd__law_mix ct__law_mix : Value}
    {a__law_next : Addr} {od__law_next an__law_next : Option Addr} {sl__law_next : Array (Option Value)} {oc__law_next kV__law_next dc__law_next pm__law_next cd__law_next ct__law_next : Value}
    {a__law_alike : Addr} {od__law_alike an__law_alike : Option Addr} {sl__law_alike : Array (Option Value)} {oc__law_alike kV__law_alike dc__law_alike pm__law_alike cd__law_alike ct__law_alike : Value}
    {a__law_pick : Addr} {od__law_pick an__law_pick : Option Addr} {sl__law_pick : Array (Option Value)} {oc__law_pick kV__law_pick dc__law_pick pm__law_pick cd__law_pick ct__law_pick : Value}
    {a__law_parts : Addr} {od__law_parts an__law_parts : Option Addr} {sl__law_parts : Array (Option Value)} {oc__law_parts kV__law_parts dc__law_parts pm__law_parts cd__law_parts ct__law_parts : Value}
    {a__law_wrong : Addr} {od__law_wrong an__law_wrong : Option Addr} {sl__law_wrong : Array (Option Value)} {oc__law_wrong kV__law_wrong dc__law_wrong pm__law_wrong cd__law_wrong ct__law_wrong : Value}
    {a__law_due : Addr} {od__law_due an__law_due : Option Addr} {sl__law_due : Array (Option Value)} {oc__law_due kV__law_due dc__law_due pm__law_due cd__law_due ct__law_due : Value}
    {a__law_answer : Addr} {od__law_answer an__law_answer : Option Addr} {sl__law_answer : Array (Option Value)} {oc__law_answer kV__law_answer dc__law_answer pm__law_answer cd__law_answer ct__law_answer : Value}
    {a__law_changed : Addr} {od__law_changed an__law_changed : Option Addr} {sl__law_changed : Array (Option Value)} {oc__law_changed kV__law_changed dc__law_changed pm__law_changed cd__law_changed ct__law_changed : Value}
    {a_law : Addr} {od_law an_law : Option Addr} {sl_law : Array (Option Value)} {oc_law kV_law dc_law pm_law cd_law ct_law : Value}
    (z_all : PySem.W.nsIn K mainGlobals "all" = some none)
    (z_bool : PySem.W.nsIn K mainGlobals "bool" = some none)
    (z_enumerate : PySem.W.nsIn K mainGlobals "enumerate" = some none)
    (z_int : PySem.W.nsIn K mainGlobals "int" = some none)
    (z_isinstance : PySem.W.nsIn K mainGlobals "isinstance" = some none)
    (z_len : PySem.W.nsIn K mainGlobals "len" = some none)
    (z_list : PySem.W.nsIn K mainGlobals "list" = some none)
    (z_max : PySem.W.nsIn K mainGlobals "max" = some none)
    (z_min : PySem.W.nsIn K mainGlobals "min" = some none)
    (z_range : PySem.W.nsIn K mainGlobals "range" = some none)
    (z_str : PySem.W.nsIn K mainGlobals "str" = some none)
    (z_super : PySem.W.nsIn K mainGlobals "super" = some none)
    (z_tuple : PySem.W.nsIn K mainGlobals "tuple" = some none)
    (z_zip : PySem.W.nsIn K mainGlobals "zip" = some none)
    (g_MOST_STANDS : PySem.W.nsIn K mainGlobals "MOST_STANDS" = some (some (.int 8 t_MOST_STANDS)))
    (g_MOST_LETTERS : PySem.W.nsIn K mainGlobals "MOST_LETTERS" = some (some (.int 3 t_MOST_LETTERS)))
    (g_GOOD : PySem.W.nsIn K mainGlobals "GOOD" = some (some (.str "good" t_GOOD)))
    (g_BAD : PySem.W.nsIn K mainGlobals "BAD" = some (some (.str "bad" t_BAD)))
    (hnX : PySem.W.specialIn K (.builtin "object.__class__") "__get__" = some (some (.builtin "getset_descriptor.__get__")))
    (htX : PySem.W.takesIn K (.builtin "object.__class__") = some true)
    (g_MachineError : PySem.W.nsIn K mainGlobals "MachineError" = some (some (.ref C_MachineError)))
    (k_MachineError : PySem.W.keepIn K (.ref C_MachineError) = true)
    (r_MachineError : PySem.W.subIn K (.ref C_MachineError) (.type "BaseException") = some true)
    (t_MachineError : PySem.W.typeIn K (.ref C_MachineError) = some (.type "type"))
    (ic_MachineError : PySem.W.isClsIn K C_MachineError = true)
    (e1_MachineError : PySem.W.findIn K (.ref C_MachineError) "__getattribute__" = some (some (.builtin "BaseException.__getattribute__")))
    (e2_MachineError : PySem.W.findIn K (.ref C_MachineError) "__getattr__" = some none)
    (e4_MachineError : PySem.W.hasDictIn K C_MachineError = true)
    (e5_MachineError : PySem.W.findIn K (.ref C_MachineError) "__class__" = some (some (.builtin "object.__class__")))
    (e8_MachineError : PySem.W.mroIn K C_MachineError (.type "object") = some true)
    (g_InvalidText : PySem.W.nsIn K mainGlobals "InvalidText" = some (some (.ref C_InvalidText)))
    (k_InvalidText : PySem.W.keepIn K (.ref C_InvalidText) = true)
    (r_InvalidText : PySem.W.subIn K (.ref C_InvalidText) (.type "BaseException") = some true)
    (t_InvalidText : PySem.W.typeIn K (.ref C_InvalidText) = some (.type "type"))
    (ic_InvalidText : PySem.W.isClsIn K C_InvalidText = true)
    (e1_InvalidText : PySem.W.findIn K (.ref C_InvalidText) "__getattribute__" = some (some (.builtin "BaseException.__getattribute__")))
    (e2_InvalidText : PySem.W.findIn K (.ref C_InvalidText) "__getattr__" = some none)
    (e4_InvalidText : PySem.W.hasDictIn K C_InvalidText = true)
    (e5_InvalidText : PySem.W.findIn K (.ref C_InvalidText) "__class__" = some (some (.builtin "object.__class__")))
    (e8_InvalidText : PySem.W.mroIn K C_InvalidText (.type "object") = some true)
    (x1_InvalidText : K.lookup C_InvalidText = some (excClassObj xnm_InvalidText xq_InvalidText C_InvalidText xN_InvalidText xbs_InvalidText xbm_InvalidText true xsn_InvalidText xsub_InvalidText xab_InvalidText xcol_InvalidText xdd_InvalidText xm0_InvalidText xm1_InvalidText xm2_InvalidText xm3_InvalidText xm5_InvalidText "ValueError.__new__"))
    (x2_InvalidText : PySem.HandSPX.refsVE xbm_InvalidText = true)
    (x3_InvalidText : PySem.W.findIn K (.ref C_InvalidText) "__setattr__" = some (some (.builtin "object.__setattr__")))
    (n_InvalidText_line : PySem.W.findIn K (.ref C_InvalidText) "line" = some none)
    (n_InvalidText_word : PySem.W.findIn K (.ref C_InvalidText) "word" = some none)
    (g_Machine : PySem.W.nsIn K mainGlobals "Machine" = some (some (.ref C_Machine)))
    (pg_Machine : PySem.W.plainGet K C_Machine Str.empty = true)
    (hd_Machine : PySem.W.hasDictIn K C_Machine = true)
    (po_Machine : PySem.W.plainOver K C_Machine = true)
    (sa_Machine : PySem.W.findIn K (.ref C_Machine) "__setattr__" = some (some (.builtin "object.__setattr__")))
    (mk_Machine : PySem.W.makesIn K C_Machine = true)
    (kc_Machine : PySem.W.keepIn K (.ref C_Machine) = true)
    (n_Machine__steps : PySem.W.findIn K (.ref C_Machine) "_steps" = some none)
    (n_Machine__good : PySem.W.findIn K (.ref C_Machine) "_good" = some none)
    (sb_InvalidText_MachineError : PySem.W.subIn K (.ref C_InvalidText) (.ref C_MachineError) = some true)
    (sb_InvalidText_InvalidText : PySem.W.subIn K (.ref C_InvalidText) (.ref C_InvalidText) = some true)
    (a1_InvalidText_init : PySem.W.findIn K (.ref C_InvalidText) "__init__" = some (some (.ref a_InvalidText_init)))
    (ty_InvalidText_init : PySem.W.typeIn K (.ref a_InvalidText_init) = some (.type "function"))
    (l_InvalidText_init : K.lookup a_InvalidText_init = some ⟨oc_InvalidText_init, od_InvalidText_init, .func (PySem.W.fnX "__init__" "InvalidText.__init__" (defArgs s_InvalidText_init) (defBody s_InvalidText_init) (defScope s_InvalidText_init) [("__class__", cc_InvalidText_init)] .none kV_InvalidText_init dc_InvalidText_init pm_InvalidText_init an_InvalidText_init (.ref cda_InvalidText_init) ct_InvalidText_init), sl_InvalidText_init⟩)
    (c_InvalidText_init : PySem.W.codeIn K (.ref cda_InvalidText_init) "InvalidText.__init__" = true)
    (s1_InvalidText_init : K.lookup cda_InvalidText_init = some ⟨ccl_InvalidText_init, cdd_InvalidText_init, .fields vs0_InvalidText_init, ccs_InvalidText_init⟩)
    (s2_InvalidText_init : vs0_InvalidText_init[2]? = some (.str file_InvalidText_init tf_InvalidText_init))
    (s3_InvalidText_init : ((l.prog.main.file : Str) == file_InvalidText_init) = true)
    (s4_InvalidText_init : K.lookup cc_InvalidText_init = some ⟨cl_InvalidText_init, cld_InvalidText_init, .cell (some (.ref C_InvalidText)), csl_InvalidText_init⟩)
    (s5_InvalidText_init : PySem.W.clsIn K C_InvalidText = some cdD_InvalidText_init)
    (s6_InvalidText_init : PySem.W.mroIn K C_InvalidText (.ref C_InvalidText) = some true)
    (s7_InvalidText_init : PySem.W.nsIn K mainGlobals "super" = some none)
    (s8_InvalidText_init : (l.prog.main.scope.names.lookup ("super" : Str)).isSome = false)
    (s9_InvalidText_init : PySem.W.nsIn K PySem.cStatics "thirdparty.any" = some none)
    (s10_InvalidText_init : PySem.W.ks_superIn K C_InvalidText C_InvalidText "__init__" = some (some (.builtin "ValueError.__init__")))
    (s11_InvalidText_init : PySem.W.subIn K (.ref C_InvalidText) (.type "ValueError") = some true)
    (a1_is_below : PySem.W.nsIn K mainGlobals "is_below" = some (some (.ref a_is_below)))
    (l_is_below : K.lookup a_is_below = some ⟨oc_is_below, od_is_below, .func (PySem.W.fnOf "is_below" "is_below" (defArgs s_is_below) (defBody s_is_below) (defScope s_is_below) .none kV_is_below dc_is_below pm_is_below an_is_below cd_is_below ct_is_below), sl_is_below⟩)
    (c_is_below : PySem.W.codeIn K cd_is_below "is_below" = true)
    (k_is_below : PySem.W.keepIn K (.ref a_is_below) = true)
    (a1_are_below : PySem.W.nsIn K mainGlobals "are_below" = some (some (.ref a_are_below)))
    (l_are_below : K.lookup a_are_below = some ⟨oc_are_below, od_are_below, .func (PySem.W.fnOf "are_below" "are_below" (defArgs s_are_below) (defBody s_are_below) (defScope s_are_below) .none kV_are_below dc_are_below pm_are_below an_are_below cd_are_below ct_are_below), sl_are_below⟩)
    (c_are_below : PySem.W.codeIn K cd_are_below "are_below" = true)
    (k_are_below : PySem.W.keepIn K (.ref a_are_below) = true)
    (a1_Machine_init : PySem.W.findIn K (.ref C_Machine) "__init__" = some (some (.ref a_Machine_init)))
    (i_Machine_init : PySem.W.isFn K (.ref a_Machine_init) = true)
    (l_Machine_init : K.lookup a_Machine_init = some ⟨oc_Machine_init, od_Machine_init, .func (PySem.W.fnOf "__init__" "Machine.__init__" (defArgs s_Machine_init) (defBody s_Machine_init) (defScope s_Machine_init) .none kV_Machine_init dc_Machine_init pm_Machine_init an_Machine_init cd_Machine_init ct_Machine_init), sl_Machine_init⟩)
    (c_Machine_init : PySem.W.codeIn K cd_Machine_init "Machine.__init__" = true)
    (k_Machine_init : PySem.W.keepIn K (.ref a_Machine_init) = true)
    (a1_check_steps : PySem.W.nsIn K mainGlobals "check_steps" = some (some (.ref a_check_steps)))
    (l_check_steps : K.lookup a_check_steps = some ⟨oc_check_steps, od_check_steps, .func (PySem.W.fnOf "check_steps" "check_steps" (defArgs s_check_steps) (defBody s_check_steps) (defScope s_check_steps) .none kV_check_steps dc_check_steps pm_check_steps an_check_steps cd_check_steps ct_check_steps), sl_check_steps⟩)
    (c_check_steps : PySem.W.codeIn K cd_check_steps "check_steps" = true)
    (k_check_steps : PySem.W.keepIn K (.ref a_check_steps) = true)
    (a1_are_leads : PySem.W.nsIn K mainGlobals "are_leads" = some (some (.ref a_are_leads)))
    (l_are_leads : K.lookup a_are_leads = some ⟨oc_are_leads, od_are_leads, .func (PySem.W.fnOf "are_leads" "are_leads" (defArgs s_are_leads) (defBody s_are_leads) (defScope s_are_leads) .none kV_are_leads dc_are_leads pm_are_leads an_are_leads cd_are_leads ct_are_leads), sl_are_leads⟩)
    (c_are_leads : PySem.W.codeIn K cd_are_leads "are_leads" = true)
    (k_are_leads : PySem.W.keepIn K (.ref a_are_leads) = true)
    (a1_check_good : PySem.W.nsIn K mainGlobals "check_good" = some (some (.ref a_check_good)))
    (l_check_good : K.lookup a_check_good = some ⟨oc_check_good, od_check_good, .func (PySem.W.fnOf "check_good" "check_good" (defArgs s_check_good) (defBody s_check_good) (defScope s_check_good) .none kV_check_good dc_check_good pm_check_good an_check_good cd_check_good ct_check_good), sl_check_good⟩)
    (c_check_good : PySem.W.codeIn K cd_check_good "check_good" = true)
    (k_check_good : PySem.W.keepIn K (.ref a_check_good) = true)
    (a1_read : PySem.W.nsIn K mainGlobals "read" = some (some (.ref a_read)))
    (l_read : K.lookup a_read = some ⟨oc_read, od_read, .func (PySem.W.fnOf "read" "read" (defArgs s_read) (defBody s_read) (defScope s_read) .none kV_read dc_read pm_read an_read cd_read ct_read), sl_read⟩)
    (c_read : PySem.W.codeIn K cd_read "read" = true)
    (k_read : PySem.W.keepIn K (.ref a_read) = true)
    (a1_words_of : PySem.W.nsIn K mainGlobals "words_of" = some (some (.ref a_words_of)))
    (l_words_of : K.lookup a_words_of = some ⟨oc_words_of, od_words_of, .func (PySem.W.fnOf "words_of" "words_of" (defArgs s_words_of) (defBody s_words_of) (defScope s_words_of) .none kV_words_of dc_words_of pm_words_of an_words_of cd_words_of ct_words_of), sl_words_of⟩)
    (c_words_of : PySem.W.codeIn K cd_words_of "words_of" = true)
    (k_words_of : PySem.W.keepIn K (.ref a_words_of) = true)
    (a1_check_words : PySem.W.nsIn K mainGlobals "check_words" = some (some (.ref a_check_words)))
    (l_check_words : K.lookup a_check_words = some ⟨oc_check_words, od_check_words, .func (PySem.W.fnOf "check_words" "check_words" (defArgs s_check_words) (defBody s_check_words) (defScope s_check_words) .none kV_check_words dc_check_words pm_check_words an_check_words cd_check_words ct_check_words), sl_check_words⟩)
    (c_check_words : PySem.W.codeIn K cd_check_words "check_words" = true)
    (k_check_words : PySem.W.keepIn K (.ref a_check_words) = true)
    (a1_words_at : PySem.W.nsIn K mainGlobals "words_at" = some (some (.ref a_words_at)))
    (l_words_at : K.lookup a_words_at = some ⟨oc_words_at, od_words_at, .func (PySem.W.fnOf "words_at" "words_at" (defArgs s_words_at) (defBody s_words_at) (defScope s_words_at) .none kV_words_at dc_words_at pm_words_at an_words_at cd_words_at ct_words_at), sl_words_at⟩)
    (c_words_at : PySem.W.codeIn K cd_words_at "words_at" = true)
    (k_words_at : PySem.W.keepIn K (.ref a_words_at) = true)
    (a1__law_mix : PySem.W.nsIn K mainGlobals "_law_mix" = some (some (.ref a__law_mix)))
    (l__law_mix : K.lookup a__law_mix = some ⟨oc__law_mix, od__law_mix, .func (PySem.W.fnOf "_law_mix" "_law_mix" (defArgs s__law_mix) (defBody s__law_mix) (defScope s__law_mix) .none kV__law_mix dc__law_mix pm__law_mix an__law_mix cd__law_mix ct__law_mix), sl__law_mix⟩)
    (c__law_mix : PySem.W.codeIn K cd__law_mix "_law_mix" = true)
    (k__law_mix : PySem.W.keepIn K (.ref a__law_mix) = true)
    (a1__law_next : PySem.W.nsIn K mainGlobals "_law_next" = some (some (.ref a__law_next)))
    (l__law_next : K.lookup a__law_next = some ⟨oc__law_next, od__law_next, .func (PySem.W.fnOf "_law_next" "_law_next" (defArgs s__law_next) (defBody s__law_next) (defScope s__law_next) .none kV__law_next dc__law_next pm__law_next an__law_next cd__law_next ct__law_next), sl__law_next⟩)
    (c__law_next : PySem.W.codeIn K cd__law_next "_law_next" = true)
    (k__law_next : PySem.W.keepIn K (.ref a__law_next) = true)
    (a1__law_alike : PySem.W.nsIn K mainGlobals "_law_alike" = some (some (.ref a__law_alike)))
    (l__law_alike : K.lookup a__law_alike = some ⟨oc__law_alike, od__law_alike, .func (PySem.W.fnOf "_law_alike" "_law_alike" (defArgs s__law_alike) (defBody s__law_alike) (defScope s__law_alike) .none kV__law_alike dc__law_alike pm__law_alike an__law_alike cd__law_alike ct__law_alike), sl__law_alike⟩)
    (c__law_alike : PySem.W.codeIn K cd__law_alike "_law_alike" = true)
    (k__law_alike : PySem.W.keepIn K (.ref a__law_alike) = true)
    (a1__law_pick : PySem.W.nsIn K mainGlobals "_law_pick" = some (some (.ref a__law_pick)))
    (l__law_pick : K.lookup a__law_pick = some ⟨oc__law_pick, od__law_pick, .func (PySem.W.fnOf "_law_pick" "_law_pick" (defArgs s__law_pick) (defBody s__law_pick) (defScope s__law_pick) .none kV__law_pick dc__law_pick pm__law_pick an__law_pick cd__law_pick ct__law_pick), sl__law_pick⟩)
    (c__law_pick : PySem.W.codeIn K cd__law_pick "_law_pick" = true)
    (k__law_pick : PySem.W.keepIn K (.ref a__law_pick) = true)
    (a1__law_parts : PySem.W.nsIn K mainGlobals "_law_parts" = some (some (.ref a__law_parts)))
    (l__law_parts : K.lookup a__law_parts = some ⟨oc__law_parts, od__law_parts, .func (PySem.W.fnOf "_law_parts" "_law_parts" (defArgs s__law_parts) (defBody s__law_parts) (defScope s__law_parts) .none kV__law_parts dc__law_parts pm__law_parts an__law_parts cd__law_parts ct__law_parts), sl__law_parts⟩)
    (c__law_parts : PySem.W.codeIn K cd__law_parts "_law_parts" = true)
    (k__law_parts : PySem.W.keepIn K (.ref a__law_parts) = true)
    (a1__law_wrong : PySem.W.nsIn K mainGlobals "_law_wrong" = some (some (.ref a__law_wrong)))
    (l__law_wrong : K.lookup a__law_wrong = some ⟨oc__law_wrong, od__law_wrong, .func (PySem.W.fnOf "_law_wrong" "_law_wrong" (defArgs s__law_wrong) (defBody s__law_wrong) (defScope s__law_wrong) .none kV__law_wrong dc__law_wrong pm__law_wrong an__law_wrong cd__law_wrong ct__law_wrong), sl__law_wrong⟩)
    (c__law_wrong : PySem.W.codeIn K cd__law_wrong "_law_wrong" = true)
    (k__law_wrong : PySem.W.keepIn K (.ref a__law_wrong) = true)
    (a1__law_due : PySem.W.nsIn K mainGlobals "_law_due" = some (some (.ref a__law_due)))
    (l__law_due : K.lookup a__law_due = some ⟨oc__law_due, od__law_due, .func (PySem.W.fnOf "_law_due" "_law_due" (defArgs s__law_due) (defBody s__law_due) (defScope s__law_due) .none kV__law_due dc__law_due pm__law_due an__law_due cd__law_due ct__law_due), sl__law_due⟩)
    (c__law_due : PySem.W.codeIn K cd__law_due "_law_due" = true)
    (k__law_due : PySem.W.keepIn K (.ref a__law_due) = true)
    (a1__law_answer : PySem.W.nsIn K mainGlobals "_law_answer" = some (some (.ref a__law_answer)))
    (l__law_answer : K.lookup a__law_answer = some ⟨oc__law_answer, od__law_answer, .func (PySem.W.fnOf "_law_answer" "_law_answer" (defArgs s__law_answer) (defBody s__law_answer) (defScope s__law_answer) .none kV__law_answer dc__law_answer pm__law_answer an__law_answer cd__law_answer ct__law_answer), sl__law_answer⟩)
    (c__law_answer : PySem.W.codeIn K cd__law_answer "_law_answer" = true)
    (k__law_answer : PySem.W.keepIn K (.ref a__law_answer) = true)
    (a1__law_changed : PySem.W.nsIn K mainGlobals "_law_changed" = some (some (.ref a__law_changed)))
    (l__law_changed : K.lookup a__law_changed = some ⟨oc__law_changed, od__law_changed, .func (PySem.W.fnOf "_law_changed" "_law_changed" (defArgs s__law_changed) (defBody s__law_changed) (defScope s__law_changed) .none kV__law_changed dc__law_changed pm__law_changed an__law_changed cd__law_changed ct__law_changed), sl__law_changed⟩)
    (c__law_changed : PySem.W.codeIn K cd__law_changed "_law_changed" = true)
    (k__law_changed : PySem.W.keepIn K (.ref a__law_changed) = true)
    (a1_law : PySem.W.nsIn K mainGlobals "law" = some (some (.ref a_law)))
    (l_law : K.lookup a_law = some ⟨oc_law, od_law, .func (PySem.W.fnOf "law" "law" (defArgs s_law) (defBody s_law) (defScope s_law) .none kV_law dc_law pm_law an_law cd_law ct_law), sl_law⟩)
    (c_law : PySem.W.codeIn K cd_law "law" = true)
    (k_law : PySem.W.keepIn K (.ref a_law) = true)
    : ∃ fd : FuncData, (∀ (s : Shared) (v : Value), BindsTo s fd ⟨[v], []⟩ [("_law_script", v)]) ∧ ∀ base : Heap, K.In base → base.Ns mainGlobals mg → FnOk l.prog w K mg base CX0 9 fa fd ["_law_script"] (spLaw K) := by
  have e := hfa.symm.trans (PySem.W.mg_of X G a1_law)
  cases e
  have F_InvalidText_init : FunS l.prog K mg C_InvalidText "__init__" "InvalidText.__init__" s_InvalidText_init a_InvalidText_init _ := ⟨_, _, _, _, _, _, cda_InvalidText_init, cc_InvalidText_init, _, _, rfl, l_InvalidText_init, c_InvalidText_init, ⟨⟨_, _, _, _, _, _, s1_InvalidText_init, s2_InvalidText_init, s3_InvalidText_init⟩, ⟨_, _, _, s4_InvalidText_init⟩, ⟨_, s5_InvalidText_init⟩, s6_InvalidText_init, PySem.W.mg_none_of X G s7_InvalidText_init, s8_InvalidText_init, s9_InvalidText_init, s10_InvalidText_init, s11_InvalidText_init, ⟨⟨_, _, _, _, _, _, _, _, _, _, _, _, _, _, _, x1_InvalidText, x2_InvalidText⟩, x3_InvalidText, r_InvalidText, t_InvalidText, k_InvalidText⟩⟩⟩
  have b_InvalidText_init := F_InvalidText_init.binds (ps := ["self", "line", "word"]) fun _ _ _ _ _ _ _ us hl => match us, hl with | [_, _, _], _ => rfl
  have F_is_below := fun_mk (st := s_is_below) l_is_below c_is_below k_is_below
  have b_is_below := F_is_below.binds (ps := ["value", "limit"]) fun _ _ _ _ _ _ us hl => match us, hl with | [_, _], _ => rfl
  have F_are_below := fun_mk (st := s_are_below) l_are_below c_are_below k_are_below
  have b_are_below := F_are_below.binds (ps := ["values", "limit"]) fun _ _ _ _ _ _ us hl => match us, hl with | [_, _], _ => rfl
  have F_Machine_init := fun_mk (st := s_Machine_init) l_Machine_init c_Machine_init k_Machine_init
  have b_Machine_init := F_Machine_init.binds (ps := ["self", "steps", "good"]) fun _ _ _ _ _ _ us hl => match us, hl with | [_, _, _], _ => rfl
  have F_check_steps := fun_mk (st := s_check_steps) l_check_steps c_check_steps k_check_steps
  have b_check_steps := F_check_steps.binds (ps := ["steps"]) fun _ _ _ _ _ _ us hl => match us, hl with | [_], _ => rfl
  have F_are_leads := fun_mk (st := s_are_leads) l_are_leads c_are_leads k_are_leads
  have b_are_leads := F_are_leads.binds (ps := ["leads", "stands"]) fun _ _ _ _ _ _ us hl => match us, hl with | [_, _], _ => rfl
  have F_check_good := fun_mk (st := s_check_good) l_check_good c_check_good k_check_good
  have b_check_good := F_check_good.binds (ps := ["good", "stands"]) fun _ _ _ _ _ _ us hl => match us, hl with | [_, _], _ => rfl
  have F_read := fun_mk (st := s_read) l_read c_read k_read
  have b_read := F_read.binds (ps := ["text"]) fun _ _ _ _ _ _ us hl => match us, hl with | [_], _ => rfl
  have F_words_of := fun_mk (st := s_words_of) l_words_of c_words_of k_words_of
  have b_words_of := F_words_of.binds (ps := ["line"]) fun _ _ _ _ _ _ us hl => match us, hl with | [_], _ => rfl
  have F_check_words := fun_mk (st := s_check_words) l_check_words c_check_words k_check_words
  have b_check_words := F_check_words.binds (ps := ["rows", "index", "least", "most"]) fun _ _ _ _ _ _ us hl => match us, hl with | [_, _, _, _], _ => rfl
  have F_words_at := fun_mk (st := s_words_at) l_words_at c_words_at k_words_at
  have b_words_at := F_words_at.binds (ps := ["place", "stands", "letters"]) fun _ _ _ _ _ _ us hl => match us, hl with | [_, _, _], _ => rfl
  have F__law_mix := fun_mk (st := s__law_mix) l__law_mix c__law_mix k__law_mix
  have b__law_mix := F__law_mix.binds (ps := ["_law_script", "_law_seed"]) fun _ _ _ _ _ _ us hl => match us, hl with | [_, _], _ => rfl
  have F__law_next := fun_mk (st := s__law_next) l__law_next c__law_next k__law_next
  have b__law_next := F__law_next.binds (ps := ["_law_h", "_law_cap"]) fun _ _ _ _ _ _ us hl => match us, hl with | [_, _], _ => rfl
  have F__law_alike := fun_mk (st := s__law_alike) l__law_alike c__law_alike k__law_alike
  have b__law_alike := F__law_alike.binds (ps := ["_law_found", "_law_due_here"]) fun _ _ _ _ _ _ us hl => match us, hl with | [_, _], _ => rfl
  have F__law_pick := fun_mk (st := s__law_pick) l__law_pick c__law_pick k__law_pick
  have b__law_pick := F__law_pick.binds (ps := ["_law_h", "_law_things"]) fun _ _ _ _ _ _ us hl => match us, hl with | [_, _], _ => rfl
  have F__law_parts := fun_mk (st := s__law_parts) l__law_parts c__law_parts k__law_parts
  have b__law_parts := F__law_parts.binds (ps := ["_law_h", "_law_letters"]) fun _ _ _ _ _ _ us hl => match us, hl with | [_, _], _ => rfl
  have F__law_wrong := fun_mk (st := s__law_wrong) l__law_wrong c__law_wrong k__law_wrong
  have b__law_wrong := F__law_wrong.binds (ps := ["_law_k", "_law_row", "_law_stands", "_law_steps"]) fun _ _ _ _ _ _ us hl => match us, hl with | [_, _, _, _], _ => rfl
  have F__law_due := fun_mk (st := s__law_due) l__law_due c__law_due k__law_due
  have b__law_due := F__law_due.binds (ps := ["_law_lines"]) fun _ _ _ _ _ _ us hl => match us, hl with | [_], _ => rfl
  have F__law_answer := fun_mk (st := s__law_answer) l__law_answer c__law_answer k__law_answer
  have b__law_answer := F__law_answer.binds (ps := ["_law_text"]) fun _ _ _ _ _ _ us hl => match us, hl with | [_], _ => rfl
  have F__law_changed := fun_mk (st := s__law_changed) l__law_changed c__law_changed k__law_changed
  have b__law_changed := F__law_changed.binds (ps := ["_law_h", "_law_lines", "_law_odd"]) fun _ _ _ _ _ _ us hl => match us, hl with | [_, _, _], _ => rfl
  have F_law := fun_mk (st := s_law) l_law c_law k_law
  have b_law := F_law.binds (ps := ["_law_script"]) fun _ _ _ _ _ _ us hl => match us, hl with | [_], _ => rfl
  let T : TxtP l.prog K mg := {
    z_all := PySem.W.mg_none_of X G z_all,
    z_bool := PySem.W.mg_none_of X G z_bool,
    z_enumerate := PySem.W.mg_none_of X G z_enumerate,
    z_int := PySem.W.mg_none_of X G z_int,
    z_isinstance := PySem.W.mg_none_of X G z_isinstance,
    z_len := PySem.W.mg_none_of X G z_len,
    z_list := PySem.W.mg_none_of X G z_list,
    z_max := PySem.W.mg_none_of X G z_max,
    z_min := PySem.W.mg_none_of X G z_min,
    z_range := PySem.W.mg_none_of X G z_range,
    z_str := PySem.W.mg_none_of X G z_str,
    z_super := PySem.W.mg_none_of X G z_super,
    z_tuple := PySem.W.mg_none_of X G z_tuple,
    z_zip := PySem.W.mg_none_of X G z_zip,
    t_MOST_STANDS := t_MOST_STANDS, g_MOST_STANDS := PySem.W.mg_of X G g_MOST_STANDS,
    t_MOST_LETTERS := t_MOST_LETTERS, g_MOST_LETTERS := PySem.W.mg_of X G g_MOST_LETTERS,
    t_GOOD := t_GOOD, g_GOOD := PySem.W.mg_of X G g_GOOD,
    t_BAD := t_BAD, g_BAD := PySem.W.mg_of X G g_BAD,
    C_MachineError := C_MachineError, g_MachineError := PySem.W.mg_of X G g_MachineError, k_MachineError := k_MachineError, r_MachineError := r_MachineError, t_MachineError := t_MachineError, ic_MachineError := ic_MachineError,
    e_MachineError := ⟨e1_MachineError, e2_MachineError, r_MachineError, e4_MachineError, e5_MachineError, hnX, htX, e8_MachineError⟩,
    C_InvalidText := C_InvalidText, g_InvalidText := PySem.W.mg_of X G g_InvalidText, k_InvalidText := k_InvalidText, r_InvalidText := r_InvalidText, t_InvalidText := t_InvalidText, ic_InvalidText := ic_InvalidText,
    e_InvalidText := ⟨e1_InvalidText, e2_InvalidText, r_InvalidText, e4_InvalidText, e5_InvalidText, hnX, htX, e8_InvalidText⟩,
    x_InvalidText := ⟨⟨_, _, _, _, _, _, _, _, _, _, _, _, _, _, _, x1_InvalidText, x2_InvalidText⟩, x3_InvalidText, r_InvalidText, t_InvalidText, k_InvalidText⟩, f_InvalidText := ⟨e1_InvalidText, e2_InvalidText, r_InvalidText, e4_InvalidText⟩,
    n_InvalidText_line := n_InvalidText_line,
    n_InvalidText_word := n_InvalidText_word,
    C_Machine := C_Machine, c_Machine := ⟨pg_Machine, hd_Machine, po_Machine, sa_Machine⟩, g_Machine := PySem.W.mg_of X G g_Machine,
    n_Machine__steps := n_Machine__steps,
    n_Machine__good := n_Machine__good,
    sb_InvalidText_MachineError := sb_InvalidText_MachineError,
    sb_InvalidText_InvalidText := sb_InvalidText_InvalidText,
    a_InvalidText_init := a_InvalidText_init, fd_InvalidText_init := _, F_InvalidText_init := F_InvalidText_init, b_InvalidText_init := b_InvalidText_init, i_InvalidText := a1_InvalidText_init, t_InvalidText_init := ty_InvalidText_init,
    a_is_below := a_is_below, fd_is_below := _, F_is_below := F_is_below, b_is_below := b_is_below,
    g_is_below := PySem.W.mg_of X G a1_is_below,
    a_are_below := a_are_below, fd_are_below := _, F_are_below := F_are_below, b_are_below := b_are_below,
    g_are_below := PySem.W.mg_of X G a1_are_below,
    a_Machine_init := a_Machine_init, fd_Machine_init := _, F_Machine_init := F_Machine_init, b_Machine_init := b_Machine_init,
    m_Machine := ⟨mk_Machine, a1_Machine_init, i_Machine_init, kc_Machine⟩,
    a_check_steps := a_check_steps, fd_check_steps := _, F_check_steps := F_check_steps, b_check_steps := b_check_steps,
    g_check_steps := PySem.W.mg_of X G a1_check_steps,
    a_are_leads := a_are_leads, fd_are_leads := _, F_are_leads := F_are_leads, b_are_leads := b_are_leads,
    g_are_leads := PySem.W.mg_of X G a1_are_leads,
    a_check_good := a_check_good, fd_check_good := _, F_check_good := F_check_good, b_check_good := b_check_good,
    g_check_good := PySem.W.mg_of X G a1_check_good,
    a_read := a_read, fd_read := _, F_read := F_read, b_read := b_read,
    g_read := PySem.W.mg_of X G a1_read,
    a_words_of := a_words_of, fd_words_of := _, F_words_of := F_words_of, b_words_of := b_words_of,
    g_words_of := PySem.W.mg_of X G a1_words_of,
    a_check_words := a_check_words, fd_check_words := _, F_check_words := F_check_words, b_check_words := b_check_words,
    g_check_words := PySem.W.mg_of X G a1_check_words,
    a_words_at := a_words_at, fd_words_at := _, F_words_at := F_words_at, b_words_at := b_words_at,
    g_words_at := PySem.W.mg_of X G a1_words_at,
    a__law_mix := a__law_mix, fd__law_mix := _, F__law_mix := F__law_mix, b__law_mix := b__law_mix,
    g__law_mix := PySem.W.mg_of X G a1__law_mix,
    a__law_next := a__law_next, fd__law_next := _, F__law_next := F__law_next, b__law_next := b__law_next,
    g__law_next := PySem.W.mg_of X G a1__law_next,
    a__law_alike := a__law_alike, fd__law_alike := _, F__law_alike := F__law_alike, b__law_alike := b__law_alike,
    g__law_alike := PySem.W.mg_of X G a1__law_alike,
    a__law_pick := a__law_pick, fd__law_pick := _, F__law_pick := F__law_pick, b__law_pick := b__law_pick,
    g__law_pick := PySem.W.mg_of X G a1__law_pick,
    a__law_parts := a__law_parts, fd__law_parts := _, F__law_parts := F__law_parts, b__law_parts := b__law_parts,
    g__law_parts := PySem.W.mg_of X G a1__law_parts,
    a__law_wrong := a__law_wrong, fd__law_wrong := _, F__law_wrong := F__law_wrong, b__law_wrong := b__law_wrong,
    g__law_wrong := PySem.W.mg_of X G a1__law_wrong,
    a__law_due := a__law_due, fd__law_due := _, F__law_due := F__law_due, b__law_due := b__law_due,
    g__law_due := PySem.W.mg_of X G a1__law_due,
    a__law_answer := a__law_answer, fd__law_answer := _, F__law_answer := F__law_answer, b__law_answer := b__law_answer,
    g__law_answer := PySem.W.mg_of X G a1__law_answer,
    a__law_changed := a__law_changed, fd__law_changed := _, F__law_changed := F__law_changed, b__law_changed := b__law_changed,
    g__law_changed := PySem.W.mg_of X G a1__law_changed,
    a_law := fa, fd_law := _, F_law := F_law, b_law := b_law,
    g_law := PySem.W.mg_of X G a1_law }
  exact ⟨T.fd_law, fun s v => .of_eq rfl, fun base _ _ => ok_law T⟩
end BF
open PySem PySem.W PyProof.Rows
set_option maxRecDepth 100000 in
set_option maxHeartbeats 0 in
theorem PySem.Challenge.cw_butfewrows_k14_texts_refused_holds : PySem.Challenge.rw_butfewrows_k14_texts_refused.Holds := by
  w_on; o_law; k_head; (case hw => w_witness2)
  k_fill
  refine L2.walk_of (l := PySem.Challenge.rw_butfewrows_k14_texts_refused) (n := 63) (k := 9) (x := "_law_script") (CX := fun _ => L2.CX0) (sp := fun w => BF.spLaw _) rfl (by decide) rfl ⟨rfl, by decide, by decide⟩ (fun w h Y => PySem.W.kIn_of Y) ?F (fun _ _ a ns hl hb hS => ⟨a, ns, rfl, hS, hl, fun _ => rfl⟩) (fun _ _ _ _ _ h => h)
  case F =>
    intro w mg fa h KX G hmg
    refine' BF.all_mk KX G hmg ?z_all ?z_bool ?z_enumerate ?z_int ?z_isinstance ?z_len ?z_list ?z_max ?z_min ?z_range ?z_str ?z_super ?z_tuple ?z_zip ?g_MOST_STANDS ?g_MOST_LETTERS ?g_GOOD ?g_BAD ?hnX ?htX ?g_MachineError ?k_MachineError ?r_MachineError ?t_MachineError ?ic_MachineError ?e1_MachineError ?e2_MachineError ?e4_MachineError ?e5_MachineError ?e8_MachineError ?g_InvalidText ?k_InvalidText ?r_InvalidText ?t_InvalidText ?ic_InvalidText ?e1_InvalidText ?e2_InvalidText ?e4_InvalidText ?e5_InvalidText ?e8_InvalidText ?x1_InvalidText ?x2_InvalidText ?x3_InvalidText ?n_InvalidText_line ?n_InvalidText_word ?g_Machine ?pg_Machine ?hd_Machine ?po_Machine ?sa_Machine ?mk_Machine ?kc_Machine ?n_Machine__steps ?n_Machine__good ?sb_InvalidText_MachineError ?sb_InvalidText_InvalidText ?a1_InvalidText_init ?ty_InvalidText_init ?l_InvalidText_init ?c_InvalidText_init ?s1_InvalidText_init ?s2_InvalidText_init ?s3_InvalidText_init ?s4_InvalidText_init ?s5_InvalidText_init ?s6_InvalidText_init ?s7_InvalidText_init ?s8_InvalidText_init ?s9_InvalidText_init ?s10_InvalidText_init ?s11_InvalidText_init ?a1_is_below ?l_is_below ?c_is_below ?k_is_below ?a1_are_below ?l_are_below ?c_are_below ?k_are_below ?a1_Machine_init ?i_Machine_init ?l_Machine_init ?c_Machine_init ?k_Machine_init ?a1_check_steps ?l_check_steps ?c_check_steps ?k_check_steps ?a1_are_leads ?l_are_leads ?c_are_leads ?k_are_leads ?a1_check_good ?l_check_good ?c_check_good ?k_check_good ?a1_read ?l_read ?c_read ?k_read ?a1_words_of ?l_words_of ?c_words_of ?k_words_of ?a1_check_words ?l_check_words ?c_check_words ?k_check_words ?a1_words_at ?l_words_at ?c_words_at ?k_words_at ?a1__law_mix ?l__law_mix ?c__law_mix ?k__law_mix ?a1__law_next ?l__law_next ?c__law_next ?k__law_next ?a1__law_alike ?l__law_alike ?c__law_alike ?k__law_alike ?a1__law_pick ?l__law_pick ?c__law_pick ?k__law_pick ?a1__law_parts ?l__law_parts ?c__law_parts ?k__law_parts ?a1__law_wrong ?l__law_wrong ?c__law_wrong ?k__law_wrong ?a1__law_due ?l__law_due ?c__law_due ?k__law_due ?a1__law_answer ?l__law_answer ?c__law_answer ?k__law_answer ?a1__law_changed ?l__law_changed ?c__law_changed ?k__law_changed ?a1_law ?l_law ?c_law ?k_law
    (case z_all => k_is)
    (case z_bool => k_is)
    (case z_enumerate => k_is)
    (case z_int => k_is)
    (case z_isinstance => k_is)
    (case z_len => k_is)
    (case z_list => k_is)
    (case z_max => k_is)
    (case z_min => k_is)
    (case z_range => k_is)
    (case z_str => k_is)
    (case z_super => k_is)
    (case z_tuple => k_is)
    (case z_zip => k_is)
    (case g_MOST_STANDS => k_is)
    (case g_MOST_LETTERS => k_is)
    (case g_GOOD => k_is)
    (case g_BAD => k_is)
    (case hnX => k_is)
    (case htX => k_is)
    (case g_MachineError => k_is)
    (case k_MachineError => k_is)
    (case r_MachineError => k_is)
    (case t_MachineError => k_is)
    (case ic_MachineError => k_is)
    (case e1_MachineError => k_is)
    (case e2_MachineError => k_is)
    (case e4_MachineError => k_is)
    (case e5_MachineError => k_is)
    (case e8_MachineError => k_is)
    (case g_InvalidText => k_is)
    (case k_InvalidText => k_is)
    (case r_InvalidText => k_is)
    (case t_InvalidText => k_is)
    (case ic_InvalidText => k_is)
    (case e1_InvalidText => k_is)
    (case e2_InvalidText => k_is)
    (case e4_InvalidText => k_is)
    (case e5_InvalidText => k_is)
    (case e8_InvalidText => k_is)
    (case x1_InvalidText => k_is)
    (case x2_InvalidText => decide +kernel)
    (case x3_InvalidText => k_is)
    (case n_InvalidText_line => k_is)
    (case n_InvalidText_word => k_is)
    (case g_Machine => k_is)
    (case pg_Machine => k_is)
    (case hd_Machine => k_is)
    (case po_Machine => k_is)
    (case sa_Machine => k_is)
    (case mk_Machine => k_is)
    (case kc_Machine => k_is)
    (case n_Machine__steps => k_is)
    (case n_Machine__good => k_is)
    (case sb_InvalidText_MachineError => first | rfl | k_is)
    (case sb_InvalidText_InvalidText => first | rfl | k_is)
    (case a1_InvalidText_init => k_is)
    (case ty_InvalidText_init => k_is)
    (case l_InvalidText_init => k_is)
    (case c_InvalidText_init => k_is)
    (case s1_InvalidText_init => k_is)
    (case s2_InvalidText_init => rfl)
    (case s3_InvalidText_init => first | rfl | decide +kernel)
    (case s4_InvalidText_init => k_is)
    (case s5_InvalidText_init => k_is)
    (case s6_InvalidText_init => k_is)
    (case s7_InvalidText_init => k_is)
    (case s8_InvalidText_init => first | rfl | decide +kernel)
    (case s9_InvalidText_init => k_is)
    (case s10_InvalidText_init => first | ks_is | k_is)
    (case s11_InvalidText_init => k_is)
    (case a1_is_below => k_is)
    (case l_is_below => k_is)
    (case c_is_below => k_is)
    (case k_is_below => k_is)
    (case a1_are_below => k_is)
    (case l_are_below => k_is)
    (case c_are_below => k_is)
    (case k_are_below => k_is)
    (case a1_Machine_init => k_is)
    (case i_Machine_init => k_is)
    (case l_Machine_init => k_is)
    (case c_Machine_init => k_is)
    (case k_Machine_init => k_is)
    (case a1_check_steps => k_is)
    (case l_check_steps => k_is)
    (case c_check_steps => k_is)
    (case k_check_steps => k_is)
    (case a1_are_leads => k_is)
    (case l_are_leads => k_is)
    (case c_are_leads => k_is)
    (case k_are_leads => k_is)
    (case a1_check_good => k_is)
    (case l_check_good => k_is)
    (case c_check_good => k_is)
    (case k_check_good => k_is)
    (case a1_read => k_is)
    (case l_read => k_is)
    (case c_read => k_is)
    (case k_read => k_is)
    (case a1_words_of => k_is)
    (case l_words_of => k_is)
    (case c_words_of => k_is)
    (case k_words_of => k_is)
    (case a1_check_words => k_is)
    (case l_check_words => k_is)
    (case c_check_words => k_is)
    (case k_check_words => k_is)
    (case a1_words_at => k_is)
    (case l_words_at => k_is)
    (case c_words_at => k_is)
    (case k_words_at => k_is)
    (case a1__law_mix => k_is)
    (case l__law_mix => k_is)
    (case c__law_mix => k_is)
    (case k__law_mix => k_is)
    (case a1__law_next => k_is)
    (case l__law_next => k_is)
    (case c__law_next => k_is)
    (case k__law_next => k_is)
    (case a1__law_alike => k_is)
    (case l__law_alike => k_is)
    (case c__law_alike => k_is)
    (case k__law_alike => k_is)
    (case a1__law_pick => k_is)
    (case l__law_pick => k_is)
    (case c__law_pick => k_is)
    (case k__law_pick => k_is)
    (case a1__law_parts => k_is)
    (case l__law_parts => k_is)
    (case c__law_parts => k_is)
    (case k__law_parts => k_is)
    (case a1__law_wrong => k_is)
    (case l__law_wrong => k_is)
    (case c__law_wrong => k_is)
    (case k__law_wrong => k_is)
    (case a1__law_due => k_is)
    (case l__law_due => k_is)
    (case c__law_due => k_is)
    (case k__law_due => k_is)
    (case a1__law_answer => k_is)
    (case l__law_answer => k_is)
    (case c__law_answer => k_is)
    (case k__law_answer => k_is)
    (case a1__law_changed => k_is)
    (case l__law_changed => k_is)
    (case c__law_changed => k_is)
    (case k__law_changed => k_is)
    (case a1_law => k_is)
    (case l_law => k_is)
    (case c_law => k_is)
    (case k_law => k_is)

