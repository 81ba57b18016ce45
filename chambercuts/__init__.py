"""Chambercuts: master-keyed locks, with papers."""
