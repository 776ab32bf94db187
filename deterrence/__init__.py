"""Audit deterrence: incentives to cheat under noisy test signals."""
