"""Latecoming: does a program notice that its messages come late?"""
