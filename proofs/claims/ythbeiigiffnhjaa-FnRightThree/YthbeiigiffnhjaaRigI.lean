/-
  The program's rights: all contracts.
-/
import Derived.Test.YthbeiigiffnhjaaRigK
import Derived.Test.YthbeiigiffnhjaaRigL
import Derived.Test.YthbeiigiffnhjaaRigM
import Derived.Test.YthbeiigiffnhjaaRigO
import Derived.Test.YthbeiigiffnhjaaRigW
