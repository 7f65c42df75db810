"""Webs of bars whose hooks sit anywhere within told spans."""
