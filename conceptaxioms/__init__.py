"""Satisfiability and subsumption of concepts: see conceptaxioms.models.answers."""
