/-
  PACKAGE lms, Size
-/
import Derived.Test.YtidklgicmhdapaaGreatDoorAv15
import Derived.Test.YtidklgicmhdapaaGreatDoorAv13

