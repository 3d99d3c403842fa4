"""Equalpurse: a town's coins dealt to works by equal purses."""
