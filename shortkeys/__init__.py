"""Answers and fragments that are kept under keys, and what each of them hangs on."""
