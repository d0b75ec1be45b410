"""The tests of reactivesynth."""
