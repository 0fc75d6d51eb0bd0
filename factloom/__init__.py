"""Factloom: facts and rules, and the reasons of every fact."""
