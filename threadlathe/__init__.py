"""Threadlathe: a lathe whose wheels set a thread's pitch and whose nut must close aright."""
