"""Guardround: guards on a web who answer each call."""
