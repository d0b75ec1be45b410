"""Reactivesynth: a synthesizer of reactive systems from temporal specifications."""
