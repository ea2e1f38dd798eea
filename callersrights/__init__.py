"""Books of rights for checks that walk the stack, decided for all runs."""
